import PyProof.Rows.All
import Wide.All
import OpenK.AllK
import Wide.FinOn
import HandS.ForMost
import HandS.Deep
import HandS.IsInst
import HandS.Style
import HandS.TupAny
import HandS.Zip
import HandS.Dict
import HandS.DictComp
import KE.KeyNested
import HandS.Flow
import HandS.Conv
import HandS.SortInts
import HandS.More
import HandS.HeadHook3
import HandS.ExcInit
import HandS.Nested
import HandS.NestedK
import HandS.FStr
import KE.KExcSuper
import PyProof.FString2
import HandS.WordsExc
import HandS.RaiseMore
import HandS.ExcOwn
import HandS.TryMany
import HandS.ExcIs
import HandS.ExcField
import KE.KExcIs
import PyProof.Rows.InDataRows
import PyProof.StrLoop
import KE.KEqNest
import HandS.DeepEq
import PyProof.NeKinds
import PySem.Challenge.RW_plotfree_k01_programs_let_by
set_option Elab.async false
set_option linter.all false
set_option maxRecDepth 100000
/-! Values as data: what a reading gives, as a plain function of the data that the names hold. -/
namespace PL
open PySem L2

/-! ### heaps -/
def Ex (H L : Hp) : Prop := ∀ p u, H p = some u → L p = some u
theorem Ex.refl (H : Hp) : Ex H H := fun _ _ k => k
theorem Ex.trans {A B C : Hp} (h : Ex A B) (k : Ex B C) : Ex A C := fun p u e => k p u (h p u e)
theorem Ex.new {H : Hp} {p : Addr} {o : HO} (z : H p = none) : Ex H (upd H p o) := fun q u e => by
  rw [upd_ne (ne_of_none e z)]
  exact e
theorem Ex.free {H H' : Hp} {p : Addr} (e : Ex H H') (h : H' p = none) : H p = none := by
  cases h1 : H p with
  | none => rfl
  | some o =>
    rw [e p o h1] at h
    cases h
theorem ex_rd {A B : Hp} {p : Addr} {u : HO} (k : Ex A B) (h : Rd A p u) : Rd B p u := h.elim (fun z => .inl (k _ _ z)) fun ⟨o, z⟩ => .inr ⟨o, k _ _ z⟩
theorem ex_l {K : PySem.W.Frag} {A B : Hp} {p : Addr} {xs : List V} (k : Ex A B) (h : SqL K A p xs) : SqL K B p xs := h.elim (fun z => .inl (ex_rd k z)) .inr
theorem ex_t {K : PySem.W.Frag} {A B : Hp} {p : Addr} {xs : List V} (k : Ex A B) (h : SqT K A p xs) : SqT K B p xs := h.elim (fun z => .inl (ex_rd k z)) .inr
abbrev Hid := Addr → Bool
/-- the heap without what is hidden -/
def vis (O : Hid) (H : Hp) : Hp := fun a => if O a = true then none else H a
theorem vis_le {O : Hid} {H : Hp} : Ex (vis O H) H := fun a o h => by
  unfold vis at h
  split at h
  · cases h
  · exact h
theorem vis_mono {O : Hid} {H H' : Hp} (e : Ex H H') : Ex (vis O H) (vis O H') := fun a o h => by
  unfold vis at h ⊢
  split at h
  · cases h
  · rename_i q
    rw [if_neg q]
    exact e a o h
theorem vis_at {O : Hid} {H : Hp} {a : Addr} {o : HO} (n : O a = false) (h : H a = some o) : vis O H a = some o := by
  unfold vis
  rw [if_neg (by rw [n]; decide)]
  exact h
/-- one more is hidden -/
def hid (O : Hid) (p : Addr) : Hid := fun a => O a || decide (a = p)
theorem hid_le {O : Hid} {p : Addr} {H : Hp} : Ex (vis (hid O p) H) (vis O H) := fun a o h => by
  unfold vis hid at *
  by_cases q : O a = true
  · rw [q] at h
    simp at h
  · rw [if_neg q]
    have q2 : O a = false := by simpa using q
    rw [q2] at h
    by_cases e : a = p
    · simp [e] at h
    · simpa [e] using h
theorem vis_hid {O : Hid} {p : Addr} {H H' : Hp} (hp : H p = none) (e : Ex H H') : Ex (vis O H) (vis (hid O p) H') := fun a o h => by
  have h1 := vis_le a o h
  have ne : a ≠ p := ne_of_none h1 hp
  unfold vis hid at *
  by_cases q : O a = true
  · rw [if_pos q] at h
    cases h
  · have q2 : O a = false := by simpa using q
    rw [q2]
    simpa [ne] using e a o h1
theorem vis_upd {O : Hid} {p : Addr} {H : Hp} {o : HO} (hp : O p = true) : vis O (upd H p o) = vis O H := by
  funext a
  unfold vis
  by_cases q : O a = true
  · rw [if_pos q, if_pos q]
  · rw [if_neg q, if_neg q, upd_ne]
    intro e
    rw [e] at q
    exact q hp
theorem upd_mono {H H' : Hp} {p : Addr} {o : HO} (e : Ex H H') : Ex (upd H p o) (upd H' p o) := fun a u h => by
  by_cases q : a = p
  · rw [q, upd_same] at h
    rw [q, upd_same]
    exact h
  · rw [upd_ne q] at h
    rw [upd_ne q]
    exact e a u h

/-! ### values and data -/
/-- a dict of texts, as data -/
def kvP (ks : List Str) (ds : List PyData) : List (PyData × PyData) := (ks.zip ds).map fun q => (.str q.1, q.2)
def kvV (ks : List Str) (vs : List V) : List (Key × V) := (ks.zip vs).map fun q => (Sum.inr q.1, q.2)
mutual
inductive Rp (K : PySem.W.Frag) (H : Hp) : V → PyData → Prop
  | non : Rp K H .non .none
  | bl (b : Bool) : Rp K H (.bl b) (.bool b)
  | int (i : Int) : Rp K H (.int i) (.int i)
  | str (x : Str) : Rp K H (.str x) (.str x)
  | lst {a : Addr} {xs : List V} {ds : List PyData} : H a = some (.lst xs) → RpAll K H xs ds → Rp K H (.ref a) (.list ds)
  | tup {a : Addr} {xs : List V} {ds : List PyData} : SqT K H a xs → RpAll K H xs ds → Rp K H (.ref a) (.tuple ds)
  | dic {a : Addr} {ks : List Str} {xs : List V} {ds : List PyData} : H a = some (.dK (kvV ks xs)) → ks.length = xs.length → RpAll K H xs ds → Rp K H (.ref a) (.dict (kvP ks ds))
  | scr {a : Addr} {ns : List Int} : SqL K H a (ns.map V.int) → Rp K H (.ref a) (.dict [(.none, .list (ns.map PyData.int))])
inductive RpAll (K : PySem.W.Frag) (H : Hp) : List V → List PyData → Prop
  | nil : RpAll K H [] []
  | cons {v : V} {vs : List V} {d : PyData} {ds : List PyData} : Rp K H v d → RpAll K H vs ds → RpAll K H (v :: vs) (d :: ds)
end
section
variable {K : PySem.W.Frag} {H H' : Hp}
mutual
theorem Rp.mono (e : Ex H H') : ∀ {v : V} {d : PyData}, Rp K H v d → Rp K H' v d
  | _, _, .non => .non
  | _, _, .bl b => .bl b
  | _, _, .int i => .int i
  | _, _, .str x => .str x
  | _, _, .lst h a => .lst (e _ _ h) (RpAll.mono e a)
  | _, _, .tup h a => .tup (ex_t e h) (RpAll.mono e a)
  | _, _, .dic h l a => .dic (e _ _ h) l (RpAll.mono e a)
  | _, _, .scr h => .scr (ex_l e h)
theorem RpAll.mono (e : Ex H H') : ∀ {vs : List V} {ds : List PyData}, RpAll K H vs ds → RpAll K H' vs ds
  | _, _, .nil => .nil
  | _, _, .cons h t => .cons (Rp.mono e h) (RpAll.mono e t)
end
theorem canLayAll_cons {d : PyData} {ds : List PyData} : PyData.canLayAll0 (d :: ds) = (PyData.canLay0 d && PyData.canLayAll0 ds) := rfl
mutual
theorem Rp.dp : ∀ {v : V} {d : PyData}, Rp K H v d → d.canLay0 = true → Dp K H v d
  | _, _, .non, _ => .non
  | _, _, .bl b, _ => .bl b
  | _, _, .int i, _ => .int i
  | _, _, .str x, _ => .str x
  | _, _, .lst h a, c => .lst (SqL.of h) (RpAll.dp a c)
  | _, _, .tup h a, c => .tup h (RpAll.dp a c)
  | _, _, .scr h, c => by cases c
theorem RpAll.dp : ∀ {vs : List V} {ds : List PyData}, RpAll K H vs ds → PyData.canLayAll0 ds = true → DpAll K H vs ds
  | _, _, .nil, _ => .nil
  | _, _, .cons h t, c => by
    rw [canLayAll_cons, Bool.and_eq_true] at c
    exact .cons (Rp.dp h c.1) (RpAll.dp t c.2)
end
theorem RpAll.length : ∀ {vs : List V} {ds : List PyData}, RpAll K H vs ds → vs.length = ds.length
  | _, _, .nil => rfl
  | _, _, .cons _ t => congrArg Nat.succ (RpAll.length t)
theorem RpAll.get : ∀ {vs : List V} {ds : List PyData} {i : Nat} {d : PyData}, RpAll K H vs ds → ds[i]? = some d → ∃ v, vs[i]? = some v ∧ Rp K H v d
  | _, _, _, _, .nil, e => by simp at e
  | _, _, 0, _, .cons h _, e => by
    simp at e
    subst e
    exact ⟨_, rfl, h⟩
  | _, _, i + 1, _, .cons _ t, e => RpAll.get (i := i) t (by simpa using e)
theorem RpAll.get' : ∀ {vs : List V} {ds : List PyData} {i : Nat} {v : V}, RpAll K H vs ds → vs[i]? = some v → ∃ d, ds[i]? = some d ∧ Rp K H v d
  | _, _, _, _, .nil, e => by simp at e
  | _, _, 0, _, .cons h _, e => by
    simp at e
    subst e
    exact ⟨_, rfl, h⟩
  | _, _, i + 1, _, .cons _ t, e => RpAll.get' (i := i) t (by simpa using e)
theorem RpAll.append : ∀ {vs ws : List V} {ds es : List PyData}, RpAll K H vs ds → RpAll K H ws es → RpAll K H (vs ++ ws) (ds ++ es)
  | _, _, _, _, .nil, t => t
  | _, _, _, _, .cons h t, u => .cons h (RpAll.append t u)
theorem RpAll.take : ∀ {vs : List V} {ds : List PyData} (n : Nat), RpAll K H vs ds → RpAll K H (vs.take n) (ds.take n)
  | _, _, 0, _ => .nil
  | _, _, _ + 1, .nil => .nil
  | _, _, n + 1, .cons h t => .cons h (RpAll.take n t)
theorem RpAll.drop : ∀ {vs : List V} {ds : List PyData} (n : Nat), RpAll K H vs ds → RpAll K H (vs.drop n) (ds.drop n)
  | _, _, 0, r => r
  | _, _, _ + 1, .nil => .nil
  | _, _, n + 1, .cons _ t => RpAll.drop n t
theorem RpAll.reverse : ∀ {vs : List V} {ds : List PyData}, RpAll K H vs ds → RpAll K H vs.reverse ds.reverse
  | _, _, .nil => .nil
  | _, _, .cons h t => by
    rw [List.reverse_cons, List.reverse_cons]
    exact (RpAll.reverse t).append (.cons h .nil)
theorem RpAll.ints : ∀ (ns : List Int), RpAll K H (ns.map V.int) (ns.map PyData.int)
  | [] => .nil
  | n :: ns => .cons (.int n) (RpAll.ints ns)
theorem RpAll.strs : ∀ (ns : List Str), RpAll K H (ns.map V.str) (ns.map PyData.str)
  | [] => .nil
  | n :: ns => .cons (.str n) (RpAll.strs ns)
def cutD (xs : List PyData) (lo hi : Option Int) : List PyData := (xs.drop (HT.sIx xs.length 0 lo)).take (HT.sIx xs.length xs.length hi - HT.sIx xs.length 0 lo)
theorem RpAll.cut {vs : List V} {ds : List PyData} (lo hi : Option Int) (h : RpAll K H vs ds) : RpAll K H (cutV vs lo hi) (cutD ds lo hi) := by
  unfold cutV cutD
  rw [h.length]
  exact (h.drop _).take _
theorem RpAll.at_ {vs : List V} {ds : List PyData} {i : Int} {d : PyData} (h : RpAll K H vs ds) (e : atI ds i = some d) : ∃ v, atI vs i = some v ∧ Rp K H v d := by
  unfold atI at *
  rw [h.length]
  cases q : ixN ds.length i with
  | none =>
    rw [q] at e
    cases e
  | some j =>
    rw [q] at e
    exact h.get e

/-! ### an operand: what stands outside of the hidden, or a hidden list whose items do -/
/-- lists and dicts shown again -/
def unl (O : Hid) (H : Hp) : Hid := fun a => O a && !(match H a with | some (.lst _) => true | some (.dK _) => true | _ => false)
theorem unl_le {O : Hid} {H : Hp} : Ex (vis O H) (vis (unl O H) H) := fun b o hb => by
  have h1 := vis_le b o hb
  refine vis_at ?_ h1
  cases z : O b with
  | false => unfold unl; rw [z]; rfl
  | true =>
    unfold vis at hb
    rw [if_pos z] at hb
    cases hb
theorem unl_ex {O : Hid} {H H' : Hp} (e : Ex H H') : Ex (vis (unl O H) H) (vis (unl O H') H') := fun b o hb => by
  have h1 := vis_le b o hb
  have hn : unl O H b = false := by
    cases z : unl O H b with
    | false => rfl
    | true =>
      unfold vis at hb
      rw [if_pos z] at hb
      cases hb
  refine vis_at ?_ (e b o h1)
  unfold unl at hn ⊢
  rw [e b o h1]
  rw [h1] at hn
  exact hn
/-- an operand: seen, or a hidden list, or a hidden dict with all that it holds -/
def Opd (K : PySem.W.Frag) (O : Hid) (H : Hp) (v : V) (d : PyData) : Prop :=
  Rp K (vis O H) v d ∨ (∃ a vs ds, v = .ref a ∧ H a = some (.lst vs) ∧ RpAll K (vis O H) vs ds ∧ d = .list ds) ∨ ∃ kvs, d = .dict kvs ∧ Rp K (vis (unl O H) H) v d
variable {O : Hid} {v : V} {d : PyData}
theorem Opd.mono (e : Ex H H') (h : Opd K O H v d) : Opd K O H' v d := by
  rcases h with h | ⟨a, vs, ds, rfl, h, r, rfl⟩ | ⟨kvs, hd, h⟩
  · exact .inl (h.mono (vis_mono e))
  · exact .inr (.inl ⟨a, vs, ds, rfl, e _ _ h, r.mono (vis_mono e), rfl⟩)
  · exact .inr (.inr ⟨kvs, hd, h.mono (unl_ex e)⟩)
theorem Opd.rp (h : Opd K O H v d) : Rp K H v d := by
  rcases h with h | ⟨a, vs, ds, rfl, h, r, rfl⟩ | ⟨kvs, hd, h⟩
  · exact h.mono vis_le
  · exact .lst h (r.mono vis_le)
  · exact h.mono vis_le
theorem Opd.int {i : Int} (h : Opd K O H v (.int i)) : v = .int i := by
  cases h.rp
  rfl
theorem Opd.bl {b : Bool} (h : Opd K O H v (.bool b)) : v = .bl b := by
  cases h.rp
  rfl
theorem Opd.str {z : Str} (h : Opd K O H v (.str z)) : v = .str z := by
  cases h.rp
  rfl
theorem Opd.lst {ds : List PyData} (h : Opd K O H v (.list ds)) : ∃ a vs, v = .ref a ∧ H a = some (.lst vs) ∧ RpAll K (vis O H) vs ds := by
  rcases h with h | ⟨a, vs, es, rfl, h, r, q⟩ | ⟨kvs, hd, h⟩
  · cases h with
    | lst h r => exact ⟨_, _, rfl, vis_le _ _ h, r⟩
  · cases q
    exact ⟨a, vs, rfl, h, r⟩
  · cases hd
theorem Opd.tup {ds : List PyData} (h : Opd K O H v (.tuple ds)) : ∃ a vs, v = .ref a ∧ SqT K H a vs ∧ RpAll K (vis O H) vs ds := by
  rcases h with h | ⟨a, vs, es, rfl, h, r, q⟩ | ⟨kvs, hd, h⟩
  · cases h with
    | tup h r => exact ⟨_, _, rfl, ex_t vis_le h, r⟩
  · cases q
  · cases hd
theorem kvP_ne {ks : List Str} {ds : List PyData} {d : PyData} {r : List (PyData × PyData)} (h : kvP ks ds = (.none, d) :: r) : False := by
  cases ks with
  | nil => cases h
  | cons k ks =>
    cases ds with
    | nil => cases h
    | cons e ds =>
      injection h with h1 _
      injection h1 with h1 _
      cases h1
/-- the script -/
def scrD (ns : List PyData) : PyData := .dict [(.none, .list ns)]
theorem Opd.scr {ds : List PyData} (o : Opd K O H v (.dict [(.none, .list ds)])) : ∃ (a : Addr) (ns : List Int), v = .ref a ∧ SqL K H a (ns.map V.int) ∧ ds = ns.map PyData.int := by
  have h := o.rp
  clear o
  generalize hd : (PyData.dict [(.none, .list ds)]) = d at h
  cases h with
  | @scr a ns k =>
    injection hd with hd
    injection hd with hd _
    injection hd with _ hd
    injection hd with hd
    exact ⟨a, ns, rfl, k, hd⟩
  | dic h l r =>
    injection hd with hd
    exact (kvP_ne hd.symm).elim
  | _ => cases hd
end

end PL
/-! A dict whose keys are nested tuples: looked at, and written. -/
namespace PN
open PySem L2 PySem.Spec PyProof.Rows PL
mutual
/-- data as a key -/
def keyN : PyData → Option NestedKey
  | .none => some .none
  | .bool b => some (.num (if b = true then 1 else 0))
  | .int i => some (.num i)
  | .str x => some (.text x)
  | .tuple ds => (keysN ds).map .tup
  | _ => none
def keysN : List PyData → Option (List NestedKey)
  | [] => some []
  | d :: ds => (keyN d).bind fun k => (keysN ds).map (k :: ·)
end
theorem sqT_is {P : Program} {w : World} {K : PySem.W.Frag} {H : Hp} {h : Heap} {a : Addr} {xs : List V} (ok : HOk P w H h) (kin : K.In h) (t : SqT K H a xs) : ∃ (o : Obj) (its : Array Value) (n : Nat), h.get? a = some o ∧ o.cls = .type "tuple" ∧ o.data = .seq its n ∧ Vals xs its.toList := by
  rcases t with t | ⟨o, its, n, h1, h2, h3, _, h5⟩
  · obtain ⟨_, its, r, o, e1, e2, n, e3⟩ := (show ObjOk P w H h a (.tup xs) from t.ok ok)
    exact ⟨o, its.toArray, n, e1, e2, e3, by simpa using r⟩
  · exact ⟨o, its, n, kin a o h1, h2, h3, h5⟩
mutual
theorem nest_of {P : Program} {w : World} {K : PySem.W.Frag} {H : Hp} {h : Heap} (ok : HOk P w H h) (kin : K.In h) : ∀ {v : V} {d : PyData} {k : NestedKey} {u : Value}, Rp K H v d → keyN d = some k → RelV v u → NestedIs h k u
  | _, _, k, u, .non, e, r => by
    cases e
    obtain rfl : u = .none := r
    exact .none
  | _, _, k, u, .bl b, e, r => by
    cases e
    obtain rfl : u = .bool b := r
    exact .bool rfl
  | _, _, k, u, .int i, e, r => by
    cases e
    obtain ⟨t, rfl⟩ := (show ∃ t, u = .int i t from r)
    exact .int i t
  | _, _, k, u, .str x, e, r => by
    cases e
    obtain ⟨t, rfl⟩ := (show ∃ t, u = .str x t from r)
    exact .text x t
  | _, _, k, u, .lst _ _, e, r => by cases e
  | _, _, k, u, .tup (a := a) t al, e, r => by
    have e' : (keysN _).map NestedKey.tup = some k := e
    obtain ⟨ks, h1, rfl⟩ := Option.map_eq_some_iff.mp e'
    obtain rfl : u = .ref a := r
    obtain ⟨o, its, n, q1, q2, q3, q4⟩ := sqT_is ok kin t
    exact .tup q1 q2 q3 (nests_of ok kin al h1 q4)
  | _, _, k, u, .dic _ _ _, e, r => by cases e
  | _, _, k, u, .scr _, e, r => by cases e
theorem nests_of {P : Program} {w : World} {K : PySem.W.Frag} {H : Hp} {h : Heap} (ok : HOk P w H h) (kin : K.In h) : ∀ {vs : List V} {ds : List PyData} {ks : List NestedKey} {us : List Value}, RpAll K H vs ds → keysN ds = some ks → Vals vs us → NestedAll h ks us
  | _, _, ks, us, .nil, e, r => by
    cases e
    cases r
    exact .nil
  | _, _, ks, us, .cons x t, e, r => by
    obtain ⟨k, h1, h2⟩ := Option.bind_eq_some_iff.mp (show (keyN _).bind _ = some ks from e)
    obtain ⟨ks', h3, rfl⟩ := Option.map_eq_some_iff.mp h2
    cases r with
    | cons r1 r2 => exact .cons (nest_of ok kin x h1 r1) (nests_of ok kin t h3 r2)
end
abbrev Es := List (NestedKey × Addr × Value)
/-- the dict at p with these entries -/
def NdO (P : Program) (w : World) (p : Addr) (es : Es) : HO := .ext fun hp => es.length ≤ sizeLine ∧ (p == sysModules) = false ∧ (es.map fun z => z.1).Nodup ∧
  ∃ ob ar n, hp.get? p = some ob ∧ ob.ExactDict ∧ ob.data = .dict ar n ∧ ar.toList = es.map (entryOfKey (nestedKind P w))
/-- at b stands such a key -/
def KeyAt (K : PySem.W.Frag) (H : Hp) (b : Addr) (k : NestedKey) : Prop := ∃ d, Rp K H (.ref b) d ∧ keyN d = some k ∧ k.depth ≤ 8
theorem KeyAt.mono {K : PySem.W.Frag} {H H' : Hp} {b : Addr} {k : NestedKey} (e : PL.Ex H H') (x : KeyAt K H b k) : KeyAt K H' b k := let ⟨d, r, q⟩ := x; ⟨d, r.mono e, q⟩
def AllAt (K : PySem.W.Frag) (H : Hp) (es : Es) : Prop := ∀ x ∈ es, KeyAt K H x.2.1 x.1
theorem AllAt.mono {K : PySem.W.Frag} {H H' : Hp} {es : Es} (e : PL.Ex H H') (x : AllAt K H es) : AllAt K H' es := fun z m => (x z m).mono e
theorem KeyAt.is {P : Program} {w : World} {K : PySem.W.Frag} {H : Hp} {h : Heap} {b : Addr} {k : NestedKey} (ok : HOk P w H h) (kin : K.In h) (x : KeyAt K H b k) : (nestedKind P w).is h k b := by
  obtain ⟨d, r, e, z⟩ := x
  exact ⟨nest_of ok kin r e rfl, z⟩
theorem nd_dict {P : Program} {w : World} {K : PySem.W.Frag} {H : Hp} {h : Heap} {p : Addr} {es : Es} (ok : HOk P w H h) (kin : K.In h) (hp : H p = some (NdO P w p es)) (al : AllAt K H es) : es.length ≤ sizeLine ∧ (p == sysModules) = false ∧ h.DictOfH (nestedKind P w) p es := by
  obtain ⟨⟨z, y, nd, ob, ar, n, h1, h2, h3, h4⟩, _⟩ := (show ObjOk P w H h p (NdO P w p es) from ok p _ hp)
  exact ⟨z, y, ob, ar, n, h1, h2, h3, h4, fun x m => (al x m).is ok kin, nd⟩
theorem nd_ok {P : Program} {w : World} {H : Hp} {h : Heap} {p : Addr} {es : Es} (z : es.length ≤ sizeLine) (y : (p == sysModules) = false) (d : h.DictOfH (nestedKind P w) p es) : ObjOk P w H h p (NdO P w p es) := by
  obtain ⟨ob, ar, n, h1, h2, h3, h4, _, h5⟩ := d
  refine ⟨⟨z, y, h5, ob, ar, n, h1, h2, h3, h4⟩, ⟨ob, h1⟩, fun g1 g2 q keep => ?_⟩
  obtain ⟨z, y, h5, ob, ar, n, h1, h2, h3, h4⟩ := q
  exact ⟨z, y, h5, ob, ar, n, keep _ h1, h2, h3, h4⟩
theorem storedH_len {es : Es} {k : NestedKey} {b : Addr} {v : Value} : (storedH es k b v).length ≤ es.length + 1 := by
  unfold storedH
  split
  · rw [List.length_map]; omega
  · rw [List.length_append]; exact Nat.le_refl _
section
variable {X : Cx} {pins : List (Addr × Obj)} {σ : L2.St} {H : Hp} {s : Shared} {p b : Addr} {es : Es} {k : NestedKey} {E : Value → Shared → Prop} {A : Around}
theorem kin_of (I : Inv X pins σ H s) : X.K.In s.heap := I.ok.mod.kin.keeps I.bk
theorem room_n (hu : A.units + 65 < cLine) : (nestedKind X.prog X.w).room A.in1 := by
  show A.units + 1 + 8 < cLine
  omega
theorem n_get {z : Addr × Value} {Q : Value → Shared → Prop} (hu : A.units + 65 < cLine) (I : Inv X pins σ H s) (hp : H p = some (NdO X.prog X.w p es)) (al : AllAt X.K H es) (hk : KeyAt X.K H b k) (hz : atKey es k = some z) (q : ∀ s', Inv X pins σ H s' → Q z.2 s') :
    wpAny (model X.prog X.w) A (getItem (.ref p) (.ref b)) Q E s := by
  obtain ⟨_, _, dd⟩ := nd_dict I.hok (kin_of I) hp al
  exact wpAny_getItem_heap (room_n hu) (hk.is I.hok (kin_of I)) dd hz (q _ (I.tok _))
theorem n_notIn {Q : Value → Shared → Prop} (hu : A.units + 65 < cLine) (I : Inv X pins σ H s) (hp : H p = some (NdO X.prog X.w p es)) (al : AllAt X.K H es) (hk : KeyAt X.K H b k) (q : ∀ s', Inv X pins σ H s' → Q (.bool (!(atKey es k).isSome)) s') :
    wpAny (model X.prog X.w) A (compareOp .NotIn (.ref b) (.ref p)) Q E s := by
  obtain ⟨_, hd, dd⟩ := nd_dict I.hok (kin_of I) hp al
  exact wpAny_notIn_heap (room_n hu) (hk.is I.hok (kin_of I)) hd dd (q _ (I.tok _))
theorem nd_mut {P : Program} {w : World} {es : Es} (e : H p = some (NdO P w p es)) : Mut (H p) := by
  rw [e]
  exact True.intro
theorem nd_after {h' : Heap} {t' : Nat} {es' : Es} (I : Inv X pins σ H s) (hp : H p = some (NdO X.prog X.w p es)) (y : (p == sysModules) = false) (z : es'.length ≤ sizeLine) (dd : h'.DictOfH (nestedKind X.prog X.w) p es') (hs : Heap.SameBut p s.heap h') :
    Inv X pins σ (upd H p (NdO X.prog X.w p es')) { s with heap := h', toks := t' } := by
  have he : ∃ q, h'.get? p = some q := let ⟨q, _, _, hq, _⟩ := dd; ⟨q, hq⟩
  exact d_write I (nd_mut hp) hs he (nd_ok z y dd)
theorem n_set {v : V} {r : Value} {Q : Unit → Shared → Prop} (hu : A.units + 65 < cLine) (I : Inv X pins σ H s) (hp : H p = some (NdO X.prog X.w p es)) (al : AllAt X.K H es) (hl : es.length < sizeLine) (hk : KeyAt X.K H b k)
    (q : ∀ s', Inv X pins σ (upd H p (NdO X.prog X.w p (storedH es k b r))) s' → Q () s') : wpAny (model X.prog X.w) A (setItem (.ref p) (.ref b) r) Q E s := by
  obtain ⟨z, y, dd⟩ := nd_dict I.hok (kin_of I) hp al
  refine wpAny_setItem_heap (hsz := z) (room_n hu) (hk.is I.hok (kin_of I)) dd fun h' d' hs => q _ ?_
  exact nd_after I hp y (by have := storedH_len (es := es) (k := k) (b := b) (v := r); omega) d' hs
theorem n_dictSet {r : Value} {Q : Unit → Shared → Prop} (hu : A.units + 65 < cLine) (I : Inv X pins σ H s) (hp : H p = some (NdO X.prog X.w p es)) (al : AllAt X.K H es) (hl : es.length < sizeLine) (hk : KeyAt X.K H b k)
    (q : ∀ s', Inv X pins σ (upd H p (NdO X.prog X.w p (storedH es k b r))) s' → Q () s') : wpAny (model X.prog X.w) A (dictSet p (.ref b) r) Q E s := by
  obtain ⟨z, y, dd⟩ := nd_dict I.hok (kin_of I) hp al
  refine wpAny_dictSet_heap (hsz := z) (show (nestedKind X.prog X.w).room A from by show A.units + 8 < cLine; omega) (hk.is I.hok (kin_of I)) dd fun h' d' hs => q _ ?_
  exact nd_after I hp y (by have := storedH_len (es := es) (k := k) (b := b) (v := r); omega) d' hs
end
/-! ### readings -/
/-- d[t] -/
def tNGet (K : PySem.W.Frag) (P : Program) (w : World) (td ty : TE) : TE := fun σ H Q => td σ H fun x H1 => ty σ H1 fun y H2 => ∃ p b es k z v, x = .ref p ∧ y = .ref b ∧ H2 p = some (NdO P w p es) ∧ AllAt K H2 es ∧ KeyAt K H2 b k ∧ atKey es k = some z ∧ RelV v z.2 ∧ Q v H2
def tNNot (K : PySem.W.Frag) (P : Program) (w : World) (ty td : TE) : TE := fun σ H Q => ty σ H fun y H1 => td σ H1 fun x H2 => ∃ p b es k, x = .ref p ∧ y = .ref b ∧ H2 p = some (NdO P w p es) ∧ AllAt K H2 es ∧ KeyAt K H2 b k ∧ Q (.bl (!(atKey es k).isSome)) H2
/-- d[t] = v -/
def sNPut (K : PySem.W.Frag) (P : Program) (w : World) (td ty tv : TE) : TS := fun D σ H => tv σ H fun v H1 => td σ H1 fun x H2 => ty σ H2 fun y H3 => ∃ p b es k, x = .ref p ∧ y = .ref b ∧ H3 p = some (NdO P w p es) ∧ AllAt K H3 es ∧ es.length < sizeLine ∧ KeyAt K H3 b k ∧
  ∀ r, RelV v r → D.nx σ (upd H3 p (NdO P w p (storedH es k b r)))
section
variable {X : Cx} {o i value : Expr} {pos pos' : Pos} {td ty tv : TE}
theorem pe_nget (hu : X.A.units + 65 < cLine) (ho : PE X o td) (hi : PE X i ty) (hs : NoSl i) : PE X (.Subscript o i pos) (tNGet X.K X.prog X.w td ty) := by
  refine ⟨fun pn s0 σ H Q J red => ?_⟩
  have two : ∀ u s1, (∃ v H', Inv X pn σ H' s1 ∧ RelV v u ∧ ty σ H' fun y H2 => ∃ p b es k z x, v = .ref p ∧ y = .ref b ∧ H2 p = some (NdO X.prog X.w p es) ∧ AllAt X.K H2 es ∧ KeyAt X.K H2 b k ∧ atKey es k = some z ∧ RelV x z.2 ∧ Q x H2) →
      wpAny (model X.prog X.w) X.A (eval i X.env) (fun iv s2 => s2.TypeIs u "dict" ∧ wpAny (model X.prog X.w) X.A (getItem u iv) (fun r s' => ∃ v H', Inv X pn σ H' s' ∧ RelV v r ∧ Q v H') X.xe s2) X.xe s1 := fun u s1 g => by
    obtain ⟨v, H1, J1, rv, g⟩ := g
    refine thn (hi.run pn s1 σ H1 _ J1 g) fun iv s2 g2 => ?_
    obtain ⟨y, H2, J2, ry, p, b, es, k, z, x, ev, ey, q1, q2, q3, q4, q5, q6⟩ := g2
    subst ev ey
    obtain rfl : u = Value.ref p := rv
    obtain rfl : iv = Value.ref b := ry
    exact ⟨(nd_dict J2.hok (kin_of J2) q1 q2).2.2.typeIs, n_get hu J2 q1 q2 q3 q4 fun s3 J3 => ⟨x, H2, J3, q5, q6⟩⟩
  exact subD_of PySem.F.slot_dict_getitem.lookup hs (thn (ho.run pn s0 σ H _ J red) fun u s1 g => two u s1 (by
    obtain ⟨v, H1, J1, rv, g⟩ := g
    exact ⟨v, H1, J1, rv, g⟩))
theorem pc_nnot (hu : X.A.units + 65 < cLine) (hi : PE X i ty) (ho : PE X o td) : PC X .NotIn i o (tNNot X.K X.prog X.w ty td) := by
  refine ⟨fun pn s0 σ H Q J red => ?_⟩
  refine thn (hi.run pn s0 σ H _ J red) fun iv s1 g => ?_
  obtain ⟨y, H1, J1, ry, g⟩ := g
  refine thn (ho.run pn s1 σ H1 _ J1 g) fun u s2 g2 => ?_
  obtain ⟨x, H2, J2, rx, p, b, es, k, ex, ey, q1, q2, q3, q4⟩ := g2
  subst ex ey
  obtain rfl : u = Value.ref p := rx
  obtain rfl : iv = Value.ref b := ry
  exact n_notIn hu J2 q1 q2 q3 fun s3 J3 => ⟨.bl (!(atKey es k).isSome), H2, J3, rfl, q4⟩
theorem ps_nput (hu : X.A.units + 65 < cLine) (ho : PE X o td) (hi : PE X i ty) (hv : PE X value tv) (hs : swapsWith value (some (.Subscript o i pos')) pos.line X.env = pure false) :
    PS X (.Assign [.Subscript o i pos'] value pos) (sNPut X.K X.prog X.w td ty tv) := by
  refine ⟨fun pn s0 σ H D J red => ?_⟩
  have last : ∀ r u s2 v, RelV v r → (∃ x H', Inv X pn σ H' s2 ∧ RelV x u ∧ ty σ H' fun y H3 => ∃ p b es k, x = .ref p ∧ y = .ref b ∧ H3 p = some (NdO X.prog X.w p es) ∧ AllAt X.K H3 es ∧ es.length < sizeLine ∧ KeyAt X.K H3 b k ∧ ∀ r, RelV v r → D.nx σ (upd H3 p (NdO X.prog X.w p (storedH es k b r)))) →
      wpAny (model X.prog X.w) X.A (eval i X.env) (fun iv s3 => wpAny (model X.prog X.w) X.A (setItem u iv r) (fun _ s' => ∃ σ' H', Inv X pn σ' H' s' ∧ D.nx σ' H') X.xe s3) X.xe s2 := fun r u s2 v rv g => by
    obtain ⟨x, H2, J2, rx, g⟩ := g
    refine thn (hi.run pn s2 σ H2 _ J2 g) fun iv s3 g3 => ?_
    obtain ⟨y, H3, J3, ry, p, b, es, k, ex, ey, q1, q2, q3, q4, q5⟩ := g3
    subst ex ey
    obtain rfl : u = Value.ref p := rx
    obtain rfl : iv = Value.ref b := ry
    exact n_set (v := v) hu J3 q1 q2 q3 q4 fun s4 J4 => ⟨σ, _, J4, q5 r rv⟩
  refine wpAny_Assign_Subscript (thn (hv.run pn s0 σ H _ J red) fun r s1 g => ?_) hs
  obtain ⟨v, H1, J1, rv, g⟩ := g
  exact thn (ho.run pn s1 σ H1 _ J1 g) fun u s2 g2 => last r u s2 v rv g2
end
end PN
/-! The objects that a frame may hold hidden, by their plain states. -/
namespace PL
open PySem L2
/-- a Store's state: the chains of its plots, what is open and its number, how many were opened, what was given back and told, which value each name holds, the values (plot, opening, number) -/
structure SM where
  chains : List (Str × List Str)
  opens : List (Str × Int)
  opened : Int
  given : List Int
  told : List Int
  held : List (Str × Nat)
  vals : List (Str × Int × Int)
/-- the law's own state -/
structure LS where
  opn : List (Str × Int)
  held : List (Str × Nat)
  worth : List (Int × Int)
  told : List Int
  given : List Int
  many : Int
  /-- where it lies, if that is known -/
  here : Option Addr
/-- the cells of a bare run: told, the numbers, the free places, the plots within each, the places lying in each, the place of each name -/
structure CM where
  told : List Int
  cells : List Int
  free : List Int
  within : List (Str × List Str)
  lying : List (Str × List Int)
  held : List (Str × Int)
inductive ObS where
  | st (C CV : Addr) (S : SM)
  | ls (S : LS)
  | dk (kvs : List (Key × V))
  | ins (C : Addr) (fs : List (Str × PyData)) (here : Option Addr)
  | stp (q : Addr) (C CV : Addr) (S : SM)
  | tl (xs ys : List V)
  | nd (P : Program) (w : World) (kvs : List (NestedKey × PyData)) (here : Option Addr)
  | cl (C : Addr) (S : CM)
def kS (x : Str) : Key := Sum.inr x
def stF (at_ ag ac ao ah : Addr) (n : Int) : List (Str × V) := [("told", .ref at_), ("opened", .int n), ("given", .ref ag), ("_chains", .ref ac), ("_openings", .ref ao), ("_held", .ref ah)]
def vaF (v : Str × Int × Int) : List (Str × V) := [("plot", .str v.1), ("opening", .int v.2.1), ("number", .int v.2.2)]
/-- list by list: at the i-th address the i-th list of texts -/
inductive ListsAt (H : Hp) : List Addr → List (List Str) → Prop
  | nil : ListsAt H [] []
  | cons {a as xs xss} : H a = some (.lst (xs.map V.str)) → ListsAt H as xss → ListsAt H (a :: as) (xs :: xss)
inductive ValsAt (H : Hp) (CV : Addr) : List (Addr × Addr) → List (Str × Int × Int) → Prop
  | nil : ValsAt H CV [] []
  | cons {a as v vs} : H a.1 = some (.ins CV a.2 (vaF v)) → H a.2 = some (.own a.1) → ValsAt H CV as vs → ValsAt H CV (a :: as) (v :: vs)
inductive PairsAt (H : Hp) : List Addr → List (Int × Int) → Prop
  | nil : PairsAt H [] []
  | cons {a as v vs} : H a = some (.lst [.int v.1, .int v.2]) → PairsAt H as vs → PairsAt H (a :: as) (v :: vs)
def zipK (ks : List Str) (as : List Addr) : List (Key × V) := (ks.zip as).map fun p => (kS p.1, V.ref p.2)
structure StAt (H : Hp) (C CV p dx at_ ag ac ao ah : Addr) (cas : List Addr) (vas : List (Addr × Addr)) (S : SM) : Prop where
  hp : H p = some (.ins C dx (stF at_ ag ac ao ah S.opened))
  hdx : H dx = some (.own p)
  ht : H at_ = some (.lst (S.told.map V.int))
  hg : H ag = some (.lst (S.given.map V.int))
  hc : H ac = some (.dK (zipK (S.chains.map (·.1)) cas))
  hcs : ListsAt H cas (S.chains.map (·.2))
  ho : H ao = some (.dK (S.opens.map fun q => (kS q.1, V.int q.2)))
  hh : H ah = some (.dK (S.held.map fun q => (kS q.1, V.ref ((vas.map (·.1)).getD q.2 0))))
  hv : ValsAt H CV vas S.vals
  hr : ∀ q ∈ S.held, q.2 < S.vals.length
def stFp (p dx at_ ag ac ao ah : Addr) (cas : List Addr) (vas : List (Addr × Addr)) : List Addr := p :: dx :: at_ :: ag :: ac :: ao :: ah :: (cas ++ (vas.map (·.1) ++ vas.map (·.2)))
structure LsAt (K : PySem.W.Frag) (H B : Hp) (p a1 a2 a3 a4 a5 : Addr) (was : List Addr) (os : List V) (S : LS) : Prop where
  hp : H p = some (.dK [(kS "open", .ref a1), (kS "held", .ref a2), (kS "worth", .ref a3), (kS "told", .ref a4), (kS "given", .ref a5), (kS "many", .int S.many)])
  h1 : H a1 = some (.lst os)
  hos : RpAll K B os (S.opn.map fun q => .tuple [.str q.1, .int q.2])
  h2 : H a2 = some (.dK (S.held.map fun q => (kS q.1, V.int (q.2 : Int))))
  h3 : H a3 = some (.lst (was.map V.ref))
  hw : PairsAt H was S.worth
  h4 : H a4 = some (.lst (S.told.map V.int))
  h5 : H a5 = some (.lst (S.given.map V.int))
  ha : ∀ q, S.here = some q → p = q
def lsFp (p a1 a2 a3 a4 a5 : Addr) (was : List Addr) : List Addr := p :: a1 :: a2 :: a3 :: a4 :: a5 :: was
def clF (at_ ac af aw al ah : Addr) : List (Str × V) := [("told", .ref at_), ("cells", .ref ac), ("_free", .ref af), ("_within", .ref aw), ("_lying", .ref al), ("_held", .ref ah)]
inductive IntsAt (H : Hp) : List Addr → List (List Int) → Prop
  | nil : IntsAt H [] []
  | cons {a as xs xss} : H a = some (.lst (xs.map V.int)) → IntsAt H as xss → IntsAt H (a :: as) (xs :: xss)
structure ClAt (H : Hp) (C p dx at_ ac af aw al ah : Addr) (was las : List Addr) (S : CM) : Prop where
  hp : H p = some (.ins C dx (clF at_ ac af aw al ah))
  hdx : H dx = some (.own p)
  ht : H at_ = some (.lst (S.told.map V.int))
  hc : H ac = some (.lst (S.cells.map V.int))
  hf : H af = some (.lst (S.free.map V.int))
  hw : H aw = some (.dK (zipK (S.within.map (·.1)) was))
  hws : ListsAt H was (S.within.map (·.2))
  hl : H al = some (.dK (zipK (S.lying.map (·.1)) las))
  hls : IntsAt H las (S.lying.map (·.2))
  hh : H ah = some (.dK (S.held.map fun q => (kS q.1, V.int q.2)))
def clFp (p dx at_ ac af aw al ah : Addr) (was las : List Addr) : List Addr := p :: dx :: at_ :: ac :: af :: aw :: al :: ah :: (was ++ las)
/-- a dict of nested keys, entry by entry -/
def NdRel (K : PySem.W.Frag) (B : Hp) : List (NestedKey × PyData) → PN.Es → Prop := Paired fun q e => q.1 = e.1 ∧ PN.KeyAt K B e.2.1 e.1 ∧ ∃ x, RelV x e.2.2 ∧ Rp K B x q.2
theorem NdRel.mono {K : PySem.W.Frag} {B B' : Hp} {kvs : List (NestedKey × PyData)} {es : PN.Es} (e : Ex B B') (h : NdRel K B kvs es) : NdRel K B' kvs es :=
  Paired.mapP h fun _ _ ⟨h1, h2, x, h3, h4⟩ => ⟨h1, h2.mono e, x, h3, h4.mono e⟩
/-- the object at v, its cells fp in H, what it shares in B -/
def Ob0 (K : PySem.W.Frag) (v : V) (fp : List Addr) (H B : Hp) : ObS → Prop
  | .st C CV S => ∃ p dx at_ ag ac ao ah cas vas, v = .ref p ∧ fp = stFp p dx at_ ag ac ao ah cas vas ∧ StAt H C CV p dx at_ ag ac ao ah cas vas S
  | .ls S => ∃ p a1 a2 a3 a4 a5 was os, v = .ref p ∧ fp = lsFp p a1 a2 a3 a4 a5 was ∧ LsAt K H B p a1 a2 a3 a4 a5 was os S
  | .dk kvs => ∃ p, v = .ref p ∧ fp = [p] ∧ H p = some (.dK kvs)
  | .ins C fs here => ∃ p dx vs, v = .ref p ∧ fp = [p, dx] ∧ H p = some (.ins C dx ((fs.map (·.1)).zip vs)) ∧ H dx = some (.own p) ∧ vs.length = fs.length ∧ RpAll K B vs (fs.map (·.2)) ∧ ∀ q, here = some q → p = q
  | .stp q C CV S => ∃ p dx at_ ag ac ao ah cas vas, v = .ref p ∧ fp = stFp p dx at_ ag ac ao ah cas vas ∧ StAt H C CV p dx at_ ag ac ao ah cas vas S ∧ p = q
  | .nd P w kvs here => ∃ p es, v = .ref p ∧ fp = [p] ∧ H p = some (PN.NdO P w p es) ∧ NdRel K B kvs es ∧ ∀ q, here = some q → p = q
  | .cl C S => ∃ p dx at_ ac af aw al ah was las, v = .ref p ∧ fp = clFp p dx at_ ac af aw al ah was las ∧ ClAt H C p dx at_ ac af aw al ah was las S
  | .tl xs ys => ∃ t p q, v = .ref t ∧ fp = [t, p, q] ∧ H t = some (.tup [.ref p, .ref q]) ∧ H p = some (.lst xs) ∧ H q = some (.lst ys)
theorem Ob0.mono {K : PySem.W.Frag} {v : V} {fp : List Addr} {H B B' : Hp} {s : ObS} (e : Ex B B') (h : Ob0 K v fp H B s) : Ob0 K v fp H B' s := by
  cases s with
  | st C CV S => exact h
  | ls S =>
    obtain ⟨p, a1, a2, a3, a4, a5, was, os, h1, h2, h3⟩ := h
    exact ⟨p, a1, a2, a3, a4, a5, was, os, h1, h2, ⟨h3.hp, h3.h1, h3.hos.mono e, h3.h2, h3.h3, h3.hw, h3.h4, h3.h5, h3.ha⟩⟩
  | dk kvs => exact h
  | ins C fs here =>
    obtain ⟨p, dx, vs, h1, h2, h3, h4, h5, h6, h7⟩ := h
    exact ⟨p, dx, vs, h1, h2, h3, h4, h5, h6.mono e, h7⟩
  | stp q C CV S => exact h
  | tl xs ys => exact h
  | cl C S => exact h
  | nd P w kvs here =>
    obtain ⟨p, es, h1, h2, h3, h4, h5⟩ := h
    exact ⟨p, es, h1, h2, h3, h4.mono e, h5⟩
/-- H at fp alone -/
def rst (fp : List Addr) (H : Hp) : Hp := fun a => if a ∈ fp then H a else none
def ObR (K : PySem.W.Frag) (v : V) (fp : List Addr) (H B : Hp) (s : ObS) : Prop := fp.Nodup ∧ (∀ a ∈ fp, H a ≠ none) ∧ Ob0 K v fp (rst fp H) B s
theorem rst_some {fp : List Addr} {H : Hp} {a : Addr} {o : HO} (h : rst fp H a = some o) : a ∈ fp ∧ H a = some o := by
  unfold rst at h
  split at h
  · exact ⟨by assumption, h⟩
  · cases h
theorem rst_at {fp : List Addr} {H : Hp} {a : Addr} {o : HO} (m : a ∈ fp) (h : H a = some o) : rst fp H a = some o := by
  unfold rst
  rw [if_pos m]
  exact h
theorem ObR.loc {K : PySem.W.Frag} {v : V} {fp : List Addr} {H H' B : Hp} {s : ObS} (h : ObR K v fp H B s) (e : ∀ a ∈ fp, H' a = H a) : ObR K v fp H' B s := by
  obtain ⟨nd, h1, h2⟩ := h
  refine ⟨nd, fun a m => by rw [e a m]; exact h1 a m, ?_⟩
  have : rst fp H' = rst fp H := by
    funext a
    unfold rst
    by_cases m : a ∈ fp
    · rw [if_pos m, if_pos m, e a m]
    · rw [if_neg m, if_neg m]
  rw [this]
  exact h2
theorem ObR.ex {K : PySem.W.Frag} {v : V} {fp : List Addr} {H H' B B' : Hp} {s : ObS} (h : ObR K v fp H B s) (e : Ex H H') (eb : Ex B B') : ObR K v fp H' B' s := by
  have h' := h.loc (H' := H') fun a m => by
    cases q : H a with
    | none => exact absurd q (h.2.1 a m)
    | some o => exact e a o q
  exact ⟨h'.1, h'.2.1, h'.2.2.mono eb⟩
end PL
namespace PL
open PySem L2

/-! ### what the names hold -/
inductive Sl where
  | un | sh (d : PyData) | own (ds : List PyData) | any | ob (s : ObS)
abbrev Env := List Sl
/-- fp: the hidden cells that the slot is alone in holding -/
def SlOk (K : PySem.W.Frag) (base : Hp) (O : Hid) (H : Hp) (x : Option V) (fp : List Addr) : Sl → Prop
  | .un => x = none ∧ fp = []
  | .sh d => (∃ v, x = some v ∧ Rp K (vis O H) v d) ∧ fp = []
  | .own ds => ∃ a vs, x = some (.ref a) ∧ fp = [a] ∧ O a = true ∧ base a = none ∧ H a = some (.lst vs) ∧ RpAll K (vis O H) vs ds
  | .any => fp = []
  | .ob s => ∃ v, x = some v ∧ (∀ a ∈ fp, O a = true ∧ base a = none) ∧ ObR K v fp H (vis O H) s
structure Sat0 (K : PySem.W.Frag) (base : Hp) (O0 O : Hid) (σ : L2.St) (H : Hp) (env : Env) (fps : Nat → List Addr) : Prop where
  ex : Ex base H
  new : ∀ a, O a = true → O0 a = true ∨ base a = none
  b0 : ∀ a, O0 a = true → base a ≠ none
  sub : ∀ a, O0 a = true → O a = true
  all : ∀ a, O a = true → H a ≠ none
  len : σ.length = env.length
  sl : ∀ (i : Nat) (x : Option V) (s : Sl), σ[i]? = some x → env[i]? = some s → SlOk K base O H x (fps i) s
  out : ∀ i, env.length ≤ i → fps i = []
  sep : ∀ (i j : Nat) (a : Addr), i ≠ j → a ∈ fps i → a ∈ fps j → False
def Sat (K : PySem.W.Frag) (base : Hp) (O0 O : Hid) (σ : L2.St) (H : Hp) (env : Env) : Prop := ∃ fps, Sat0 K base O0 O σ H env fps
section
variable {K : PySem.W.Frag} {base : Hp} {O0 O : Hid} {σ : L2.St} {H H' : Hp} {env : Env}
theorem Sat.ex (S : Sat K base O0 O σ H env) : Ex base H := S.choose_spec.ex
theorem Sat.new (S : Sat K base O0 O σ H env) : ∀ a, O a = true → O0 a = true ∨ base a = none := S.choose_spec.new
theorem Sat.b0 (S : Sat K base O0 O σ H env) : ∀ a, O0 a = true → base a ≠ none := S.choose_spec.b0
theorem Sat.sub (S : Sat K base O0 O σ H env) : ∀ a, O0 a = true → O a = true := S.choose_spec.sub
theorem Sat.all (S : Sat K base O0 O σ H env) : ∀ a, O a = true → H a ≠ none := S.choose_spec.all
theorem Sat.len (S : Sat K base O0 O σ H env) : σ.length = env.length := S.choose_spec.len
/-- a slot's word where the hidden cells stand and the rest grows -/
theorem SlOk.step {O' : Hid} {x : Option V} {fp : List Addr} {s : Sl} (h : SlOk K base O H x fp s) (ev : Ex (vis O H) (vis O' H')) (ef : ∀ a ∈ fp, H' a = H a) (eo : ∀ a ∈ fp, O' a = true) : SlOk K base O' H' x fp s := by
  cases s with
  | un => exact h
  | any => exact h
  | sh d =>
    obtain ⟨⟨v, q, r⟩, e⟩ := h
    exact ⟨⟨v, q, r.mono ev⟩, e⟩
  | own ds =>
    obtain ⟨a, vs, q, rfl, o, b, h, r⟩ := h
    exact ⟨a, vs, q, rfl, eo a (List.mem_singleton.mpr rfl), b, by rw [ef a (List.mem_singleton.mpr rfl)]; exact h, r.mono ev⟩
  | ob s =>
    obtain ⟨v, q, o, r⟩ := h
    have r2 := r.loc ef
    exact ⟨v, q, fun a m => ⟨eo a m, (o a m).2⟩, r2.1, r2.2.1, r2.2.2.mono ev⟩
theorem SlOk.cells {x : Option V} {fp : List Addr} {s : Sl} (h : SlOk K base O H x fp s) : ∀ a ∈ fp, O a = true ∧ base a = none := by
  intro a m
  cases s with
  | un => rw [h.2] at m; cases m
  | any => rw [show fp = [] from h] at m; cases m
  | sh d => rw [h.2] at m; cases m
  | own ds =>
    obtain ⟨b, vs, q, rfl, o, bn, h, r⟩ := h
    rw [List.mem_singleton.mp m]
    exact ⟨o, bn⟩
  | ob s =>
    obtain ⟨v, q, o, r⟩ := h
    exact o a m
theorem Sat0.cells {fps : Nat → List Addr} (S : Sat0 K base O0 O σ H env fps) (i : Nat) : ∀ a ∈ fps i, O a = true ∧ base a = none := by
  intro a m
  by_cases hi : i < env.length
  · have hs : i < σ.length := by rw [S.len]; exact hi
    exact (S.sl i _ _ (List.getElem?_eq_getElem hs) (List.getElem?_eq_getElem hi)).cells a m
  · rw [S.out i (by omega)] at m
    cases m
theorem keeps {a : Addr} (al : H a ≠ none) (e : Ex H H') : H' a = H a := by
  cases q : H a with
  | none => exact absurd q al
  | some o => exact e a o q
theorem Sat.mono (e : Ex H H') (S : Sat K base O0 O σ H env) : Sat K base O0 O σ H' env := by
  obtain ⟨fps, S⟩ := S
  refine ⟨fps, S.ex.trans e, S.new, S.b0, S.sub, fun a h q => S.all a h (e.free q), S.len, fun i x s h1 h2 => (S.sl i x s h1 h2).step (vis_mono e) (fun a m => keeps (S.all a (S.cells i a m).1) e) fun a m => (S.cells i a m).1, S.out, S.sep⟩
theorem Sat.at_ (S : Sat K base O0 O σ H env) {i : Nat} {s : Sl} (h : env[i]? = some s) : ∃ x fp, σ[i]? = some x ∧ SlOk K base O H x fp s := by
  obtain ⟨fps, S⟩ := S
  have hi : i < σ.length := by rw [S.len]; exact (List.getElem?_eq_some_iff.mp h).1
  exact ⟨σ[i], fps i, List.getElem?_eq_getElem hi, S.sl i _ s (List.getElem?_eq_getElem hi) h⟩
def fpSet (fps : Nat → List Addr) (i : Nat) (fp : List Addr) : Nat → List Addr := fun j => if j = i then fp else fps j
/-- slot i gets another thing x; what is hidden, the heap may change, but not at other slots' cells -/
theorem Sat0.put {O' : Hid} {fps : Nat → List Addr} {i : Nat} {x : Option V} {fp : List Addr} {s : Sl} (S : Sat0 K base O0 O σ H env fps)
    (ex : Ex base H') (ev : Ex (vis O H) (vis O' H')) (new : ∀ a, O' a = true → O0 a = true ∨ base a = none) (sub : ∀ a, O0 a = true → O' a = true) (all : ∀ a, O' a = true → H' a ≠ none)
    (keep : ∀ j, j ≠ i → ∀ a ∈ fps j, H' a = H a ∧ O' a = true ∧ a ∉ fp) (hs : SlOk K base O' H' x fp s) (hi : i < env.length) : Sat0 K base O0 O' (σ.set i x) H' (env.set i s) (fpSet fps i fp) := by
  refine ⟨ex, new, S.b0, sub, all, by rw [List.length_set, List.length_set, S.len], fun j y z h1 h2 => ?_, fun j hj => ?_, fun j k a n h1 h2 => ?_⟩
  · unfold fpSet
    by_cases e : j = i
    · subst e
      rw [if_pos rfl]
      rw [List.getElem?_set_self (by rw [S.len]; exact hi)] at h1
      rw [List.getElem?_set_self hi] at h2
      cases h1
      cases h2
      exact hs
    · rw [if_neg e]
      rw [List.getElem?_set_ne (fun q => e q.symm)] at h1 h2
      exact (S.sl j y z h1 h2).step ev (fun a m => (keep j e a m).1) fun a m => (keep j e a m).2.1
  · rw [List.length_set] at hj
    unfold fpSet
    rw [if_neg (by omega)]
    exact S.out j hj
  · unfold fpSet at h1 h2
    by_cases e : j = i
    · subst e
      rw [if_pos rfl] at h1
      rw [if_neg (fun q => n q.symm)] at h2
      exact (keep k (fun q => n q.symm) a h2).2.2 h1
    · rw [if_neg e] at h1
      by_cases e2 : k = i
      · rw [if_pos e2] at h2
        exact (keep j e a h1).2.2 h2
      · rw [if_neg e2] at h2
        exact S.sep j k a n h1 h2
theorem set_out {α : Type} {l : List α} {i : Nat} {x : α} (h : ¬ i < l.length) : l.set i x = l := List.set_eq_of_length_le (by omega)
/-- one slot is set to a thing that is not hidden -/
theorem Sat.set {i : Nat} {v : V} {d : PyData} (S : Sat K base O0 O σ H env) (r : Rp K (vis O H) v d) : Sat K base O0 O (σ.set i (some v)) H (env.set i (.sh d)) := by
  obtain ⟨fps, S⟩ := S
  by_cases hi : i < env.length
  · exact ⟨_, S.put (O' := O) (H' := H) (fp := []) S.ex (Ex.refl _) S.new S.sub S.all (fun j n a m => ⟨rfl, (S.cells j a m).1, fun q => nomatch q⟩) ⟨⟨v, rfl, r⟩, rfl⟩ hi⟩
  · rw [set_out hi, set_out (by rw [S.len]; exact hi)]
    exact ⟨fps, S⟩
theorem Sat.un (S : Sat K base O0 O σ H env) (i : Nat) : Sat K base O0 O (σ.set i none) H (env.set i .un) := by
  obtain ⟨fps, S⟩ := S
  by_cases hi : i < env.length
  · exact ⟨_, S.put (O' := O) (H' := H) (fp := []) S.ex (Ex.refl _) S.new S.sub S.all (fun j n a m => ⟨rfl, (S.cells j a m).1, fun q => nomatch q⟩) ⟨rfl, rfl⟩ hi⟩
  · rw [set_out hi, set_out (by rw [S.len]; exact hi)]
    exact ⟨fps, S⟩
/-- a new list becomes hidden, slot i holds it -/
theorem Sat.setOwn {i : Nat} {p : Addr} {vs : List V} {ds : List PyData} (S : Sat K base O0 O σ H env) (hp : H p = none) (e : Ex H H') (h : H' p = some (.lst vs)) (r : RpAll K (vis (hid O p) H') vs ds) :
    Sat K base O0 (hid O p) (σ.set i (some (.ref p))) H' (env.set i (.own ds)) := by
  obtain ⟨fps, S⟩ := S
  have bp : base p = none := S.ex.free hp
  have hO : ∀ a, O a = true → hid O p a = true := fun a q => by unfold hid; rw [q]; rfl
  have hpp : hid O p p = true := by unfold hid; simp
  have np : ∀ j, ∀ a ∈ fps j, a ≠ p := fun j a m q => S.all a (S.cells j a m).1 (q ▸ hp)
  have new : ∀ a, hid O p a = true → O0 a = true ∨ base a = none := fun a q => by
    unfold hid at q
    by_cases qa : O a = true
    · exact S.new a qa
    · have : a = p := by simpa [qa] using q
      rw [this]
      exact .inr bp
  have all : ∀ a, hid O p a = true → H' a ≠ none := fun a q z => by
    unfold hid at q
    by_cases qa : O a = true
    · exact S.all a qa (e.free z)
    · have : a = p := by simpa [qa] using q
      rw [this, h] at z
      cases z
  by_cases hi : i < env.length
  · refine ⟨_, S.put (O' := hid O p) (H' := H') (fp := [p]) (S.ex.trans e) (vis_hid hp e) new (fun a q => hO a (S.sub a q)) all (fun j n a m => ⟨keeps (S.all a (S.cells j a m).1) e, hO a (S.cells j a m).1, fun q => np j a m (List.mem_singleton.mp q)⟩) ⟨p, vs, rfl, rfl, hpp, bp, h, r⟩ hi⟩
  · rw [set_out hi, set_out (by rw [S.len]; exact hi)]
    exact ⟨fps, S.ex.trans e, new, S.b0, fun a q => hO a (S.sub a q), all, S.len, fun j x s h1 h2 => (S.sl j x s h1 h2).step (vis_hid hp e) (fun a m => keeps (S.all a (S.cells j a m).1) e) fun a m => hO a (S.cells j a m).1, S.out, S.sep⟩
/-- the hidden list of slot i is changed -/
theorem Sat.mut {i : Nat} {a : Addr} {vs : List V} {ds es : List PyData} (S : Sat K base O0 O σ H env) (hi : env[i]? = some (.own ds)) (ha : σ[i]? = some (some (.ref a))) (r : RpAll K (vis O H) vs es) :
    vis O (upd H a (.lst vs)) = vis O H ∧ Sat K base O0 O σ (upd H a (.lst vs)) (env.set i (.own es)) := by
  obtain ⟨fps, S⟩ := S
  obtain ⟨b, ws, e1, ef, oa, ba, h, _⟩ := S.sl i _ _ ha hi
  cases e1
  have hv : vis O (upd H a (.lst vs)) = vis O H := vis_upd oa
  have hil : i < env.length := (List.getElem?_eq_some_iff.mp hi).1
  have na : ∀ j, j ≠ i → ∀ b ∈ fps j, b ≠ a := fun j n b m q => S.sep j i b n m (by rw [ef, q]; exact List.mem_singleton.mpr rfl)
  have es_ : σ.set i (some (.ref a)) = σ := by
    apply List.ext_getElem?
    intro k
    by_cases q : i = k
    · subst q
      rw [List.getElem?_set_self (by rw [S.len]; exact hil), ha]
    · rw [List.getElem?_set_ne q]
  refine ⟨hv, fpSet fps i [a], ?_⟩
  have g := S.put (O' := O) (H' := upd H a (.lst vs)) (fp := [a]) (i := i) (x := some (.ref a)) (s := .own es) (fun b o q => by rw [upd_ne (ne_of_none q ba)]; exact S.ex b o q) (by rw [hv]; exact Ex.refl _) S.new S.sub
    (fun b q z => by
      by_cases e : b = a
      · rw [e, upd_same] at z
        cases z
      · rw [upd_ne e] at z
        exact S.all b q z)
    (fun j n b m => ⟨upd_ne (na j n b m), (S.cells j b m).1, fun q => na j n b m (List.mem_singleton.mp q)⟩) ⟨a, vs, rfl, rfl, oa, ba, upd_same, by rw [hv]; exact r⟩ hil
  rw [es_] at g
  exact g
/-- a new thing at D, hidden, no slot's -/
theorem Sat.hide {D : Addr} (S : Sat K base O0 O σ H env) (hD : H D = none) (e : Ex H H') (h : H' D ≠ none) : Sat K base O0 (hid O D) σ H' env := by
  obtain ⟨fps, S⟩ := S
  have bp : base D = none := S.ex.free hD
  have hO : ∀ a, O a = true → hid O D a = true := fun a q => by unfold hid; rw [q]; rfl
  refine ⟨fps, S.ex.trans e, fun a q => ?_, S.b0, fun a q => hO a (S.sub a q), fun a q z => ?_, S.len, fun j x s h1 h2 => (S.sl j x s h1 h2).step (vis_hid hD e) (fun a m => keeps (S.all a (S.cells j a m).1) e) fun a m => hO a (S.cells j a m).1, S.out, S.sep⟩
  · unfold hid at q
    by_cases qa : O a = true
    · exact S.new a qa
    · have : a = D := by simpa [qa] using q
      rw [this]
      exact .inr bp
  · unfold hid at q
    by_cases qa : O a = true
    · exact S.all a qa (e.free z)
    · have : a = D := by simpa [qa] using q
      rw [this] at z
      exact h z
/-- a list that was to change stays as it is from here on -/
theorem Sat.let_ {i : Nat} {ds : List PyData} (S : Sat K base O0 O σ H env) (hi : env[i]? = some (.own ds)) : ∃ O', Ex (vis O H) (vis O' H) ∧ Sat K base O0 O' σ H (env.set i (.sh (.list ds))) := by
  obtain ⟨fps, S⟩ := S
  have hil : i < env.length := (List.getElem?_eq_some_iff.mp hi).1
  have hs : i < σ.length := by rw [S.len]; exact hil
  obtain ⟨a, vs, hx, ef, oa, ba, h1, r⟩ := S.sl i _ _ (List.getElem?_eq_getElem hs) hi
  have n0 : O0 a = false := by
    cases q : O0 a with
    | false => rfl
    | true => exact absurd ba (S.b0 a q)
  let O' : Hid := fun b => O b && !decide (b = a)
  have hO : ∀ b, O' b = true → O b = true := fun b q => by
    have this : (O b && !decide (b = a)) = true := q
    exact (Bool.and_eq_true_iff.mp this).1
  have hv : Ex (vis O H) (vis O' H) := fun b o q => by
    unfold vis at *
    by_cases z : O b = true
    · rw [if_pos z] at q
      cases q
    · rw [if_neg z] at q
      rw [if_neg (fun y => z (hO b y))]
      exact q
  have ha : O' a = false := by simp [O']
  have na : ∀ j, j ≠ i → ∀ b ∈ fps j, b ≠ a := fun j n b m q => S.sep j i b n m (by rw [ef, q]; exact List.mem_singleton.mpr rfl)
  have es_ : σ.set i (some (.ref a)) = σ := by
    apply List.ext_getElem?
    intro k
    by_cases q : i = k
    · subst q
      rw [List.getElem?_set_self hs, List.getElem?_eq_getElem hs, hx]
    · rw [List.getElem?_set_ne q]
  have g := S.put (O' := O') (H' := H) (fp := []) (i := i) (x := some (.ref a)) (s := .sh (.list ds)) S.ex hv (fun b q => S.new b (hO b q)) (fun b q => by
      have ne : b ≠ a := fun z => by
        rw [z, n0] at q
        cases q
      simp [O', S.sub b q, ne]) (fun b q => S.all b (hO b q))
    (fun j n b m => ⟨rfl, by simp [O', (S.cells j b m).1, na j n b m], fun q => nomatch q⟩) ⟨⟨_, rfl, .lst (vis_at ha h1) (r.mono hv)⟩, rfl⟩ hil
  rw [es_] at g
  exact ⟨O', hv, _, g⟩
end
end PL
namespace PL
open PySem L2

/-! ### what a reading gives -/
def DenP (K : PySem.W.Frag) (te : TE) (f : Env → Option PyData) : Prop := ∀ base O0 O σ H env d, Sat K base O0 O σ H env → f env = some d → ∀ Q : VK, (∀ v H', Ex H H' → Rp K (vis O H') v d → Q v H') → te σ H Q
def Den (K : PySem.W.Frag) (te : TE) (f : Env → Option PyData) : Prop := ∀ base O0 O σ H env d, Sat K base O0 O σ H env → f env = some d → ∀ Q : VK, (∀ v H', Ex H H' → Opd K O H' v d → Q v H') → te σ H Q
def DenN (K : PySem.W.Frag) (te : TE) (f : Env → Option (List PyData)) : Prop := ∀ base O0 O σ H env ds, Sat K base O0 O σ H env → f env = some ds → ∀ Q : VK, (∀ p vs H', H p = none → Ex H H' → H' p = some (.lst vs) → RpAll K (vis (hid O p) H') vs ds → Q (.ref p) H') → te σ H Q
def DenT (K : PySem.W.Frag) (tt : TT) (f : Env → Option Bool) : Prop := ∀ base O0 O σ H env b, Sat K base O0 O σ H env → f env = some b → ∀ Q : Bool → Hp → Prop, (∀ H', Ex H H' → Q b H') → tt σ H Q
inductive OpdAll (K : PySem.W.Frag) (O : Hid) (H : Hp) : List V → List PyData → Prop
  | nil : OpdAll K O H [] []
  | cons {v vs d ds} : Opd K O H v d → OpdAll K O H vs ds → OpdAll K O H (v :: vs) (d :: ds)
def DenA (K : PySem.W.Frag) (ta : TA) (f : Env → Option (List PyData)) : Prop := ∀ base O0 O σ H env ds, Sat K base O0 O σ H env → f env = some ds → ∀ Q : List V → Hp → Prop, (∀ vs H', Ex H H' → OpdAll K O H' vs ds → Q vs H') → ta σ H Q
def DenAP (K : PySem.W.Frag) (ta : TA) (f : Env → Option (List PyData)) : Prop := ∀ base O0 O σ H env ds, Sat K base O0 O σ H env → f env = some ds → ∀ Q : List V → Hp → Prop, (∀ vs H', Ex H H' → RpAll K (vis O H') vs ds → Q vs H') → ta σ H Q
def DenO (K : PySem.W.Frag) (to : TO) (f : Env → Option (Option Int)) : Prop := ∀ base O0 O σ H env o, Sat K base O0 O σ H env → f env = some o → ∀ Q : Option Int → Hp → Prop, (∀ H', Ex H H' → Q o H') → to σ H Q
theorem OpdAll.mono {K : PySem.W.Frag} {O : Hid} {H H' : Hp} (e : Ex H H') : ∀ {vs ds}, OpdAll K O H vs ds → OpdAll K O H' vs ds
  | _, _, .nil => .nil
  | _, _, .cons h t => .cons (h.mono e) (t.mono e)

/-! ### plain functions of the data of the names -/
def eVar (i : Nat) : Env → Option PyData := fun env => match env[i]? with
  | some (.sh d) => some d
  | _ => none
def eVarO (i : Nat) : Env → Option PyData := fun env => match env[i]? with
  | some (.sh d) => some d
  | some (.own ds) => some (.list ds)
  | _ => none
def eC (d : PyData) : Env → Option PyData := fun _ => some d
def e1 (g : PyData → Option PyData) (fa : Env → Option PyData) : Env → Option PyData := fun env => (fa env).bind g
def e2 (g : PyData → PyData → Option PyData) (fa fb : Env → Option PyData) : Env → Option PyData := fun env => (fa env).bind fun x => (fb env).bind fun y => g x y
def eA (g : List PyData → Option PyData) (fa : Env → Option (List PyData)) : Env → Option PyData := fun env => (fa env).bind g
def eL (f : Env → Option (List PyData)) : Env → Option PyData := fun env => (f env).map PyData.list
def aNil : Env → Option (List PyData) := fun _ => some []
def aCons (f : Env → Option PyData) (r : Env → Option (List PyData)) : Env → Option (List PyData) := fun env => (f env).bind fun d => (r env).bind fun ds => some (d :: ds)
def short (ds : List PyData) : Option (List PyData) := if ds.length ≤ 100000 then some ds else none
def eTup (f : Env → Option (List PyData)) : Env → Option PyData := fun env => (f env).bind fun ds => (short ds).map PyData.tuple
def nLst (f : Env → Option (List PyData)) : Env → Option (List PyData) := fun env => (f env).bind short
def eIf (t : Env → Option Bool) (a b : Env → Option PyData) : Env → Option PyData := fun env => (t env).bind fun k => if k then a env else b env
def asB : PyData → Option Bool
  | .bool b => some b
  | _ => none
def tE (f : Env → Option PyData) : Env → Option Bool := fun env => (f env).bind asB
def tA (a b : Env → Option Bool) : Env → Option Bool := fun env => (a env).bind fun k => if k then b env else some false
def tO (a b : Env → Option Bool) : Env → Option Bool := fun env => (a env).bind fun k => if k then some true else b env
def tN (a : Env → Option Bool) : Env → Option Bool := fun env => (a env).map (!·)
def eAndB (a b : Env → Option PyData) : Env → Option PyData := fun env => (tE a env).bind fun k => if k then b env else some (.bool false)
def eOrB (a b : Env → Option PyData) : Env → Option PyData := fun env => (tE a env).bind fun k => if k then some (.bool true) else b env
def eNotB (a : Env → Option PyData) : Env → Option PyData := fun env => (tN (tE a) env).map PyData.bool
def oNone : Env → Option (Option Int) := fun _ => some none
def asI : PyData → Option Int
  | .int i => some i
  | _ => none
def oSome (f : Env → Option PyData) : Env → Option (Option Int) := fun env => (f env).bind fun d => (asI d).map some

/-! ### operators on data -/
def gI (f : Int → Int → Int) : PyData → PyData → Option PyData
  | .int i, .int j => some (.int (f i j))
  | _, _ => none
def gB (f : Int → Int → Bool) : PyData → PyData → Option PyData
  | .int i, .int j => some (.bool (f i j))
  | _, _ => none
def gIC (c : Int → Int → Bool) (f : Int → Int → Int) : PyData → PyData → Option PyData
  | .int i, .int j => if c i j then some (.int (f i j)) else none
  | _, _ => none
def rAddU : R2 := fun x y H Q => rI0 (fun i j => .int (i + j)) x y H Q ∨ ∃ i j, x = .str i ∧ y = .str j ∧ i.length + j.length ≤ sizeLine ∧ Q (.str (i ++ j)) H
def gAdd : PyData → PyData → Option PyData
  | .int i, .int j => some (.int (i + j))
  | .str i, .str j => if i.length + j.length ≤ 100000 then some (.str (i ++ j)) else none
  | _, _ => none
def cDiv (_ j : Int) : Bool := decide (0 < j ∧ j < 1073741824)
def cMod (_ j : Int) : Bool := decide (0 < j)
def cMul (i j : Int) : Bool := decide ((-18446744073709551616 < i ∧ i < 18446744073709551616) ∨ (-18446744073709551616 < j ∧ j < 18446744073709551616))
def gEq : PyData → PyData → Option PyData := fun x y => if SeqAt.shaped x && SeqAt.shaped y then some (.bool (PyData.eqv x y)) else none
def gNe : PyData → PyData → Option PyData := fun x y => if SeqAt.shaped x && SeqAt.shaped y then some (.bool (!PyData.eqv x y)) else none
/-- x in a list; in a text, x one sign -/
def gInL (neg : Bool) : PyData → PyData → Option PyData := fun x y => match y with
  | .list ds => if SeqAt.shaped x && SeqAt.shaped (.list ds) then some (.bool (if neg then !ds.any fun z => PyData.eqv z x else ds.any fun z => PyData.eqv z x)) else none
  | _ => none
def gInS (neg : Bool) : PyData → PyData → Option PyData
  | .str c, .str z => match c.cps.toList with
    | [k] => some (.bool (if neg then !decide (k ∈ z.cps.toList) else decide (k ∈ z.cps.toList)))
    | _ => none
  | _, _ => none
def flatD : PyData → Option V
  | .none => some .non
  | .bool b => some (.bl b)
  | .int i => some (.int i)
  | .str s => some (.str s)
  | _ => none
def flatDs : List PyData → Option (List V)
  | [] => some []
  | d :: ds => (flatD d).bind fun v => (flatDs ds).map (v :: ·)
/-- x in a tuple of flat things -/
def gInT (neg : Bool) : PyData → PyData → Option PyData := fun x y => match y with
  | .tuple ds => (flatD x).bind fun v => (flatDs ds).bind fun vs => some (.bool (if neg then !inV v vs else inV v vs))
  | _ => none
def gIsN (neg : Bool) : PyData → Option PyData := fun x => some (.bool (match x with | .none => !neg | _ => neg))
def gIx : PyData → PyData → Option PyData
  | .list ds, .int k => atI ds k
  | .tuple ds, .int k => atI ds k
  | .str z, .int k => if z.length ≤ 100000 then (atI z.cps.toList k).map fun c => .str ⟨#[c]⟩ else none
  | .dict [(.none, .list ds)], .int k => atI ds k
  | _, _ => none
def dLen : PyData → Option PyData
  | .list ds => some (.int ds.length)
  | .tuple ds => some (.int ds.length)
  | .str z => if z.length ≤ 100000 then some (.int z.length) else none
  | .dict [(.none, .list ds)] => some (.int ds.length)
  | _ => none
def gLen : List PyData → Option PyData
  | [d] => dLen d
  | _ => none
def tyD : PyData → Option String
  | .none => some "NoneType"
  | .bool _ => some "bool"
  | .int _ => some "int"
  | .str _ => some "str"
  | .list _ => some "list"
  | .tuple _ => some "tuple"
  | .dict [] => some "dict"
  | _ => none
def gIsi (n : String) : PyData → Option PyData := fun d => (tyD d).bind fun s => (kitB s n).map PyData.bool
def gAbs : List PyData → Option PyData
  | [.int i] => some (.int (if i < 0 then -i else i))
  | _ => none
def gMax : List PyData → Option PyData
  | [.int i, .int j] => some (.int (if j > i then j else i))
  | _ => none
def gInt : List PyData → Option PyData
  | [.int i] => some (.int i)
  | [.bool k] => some (.int (if k then 1 else 0))
  | _ => none
def gNeg : PyData → Option PyData
  | .int i => some (.int (-i))
  | _ => none
def asStrs : List PyData → Option (List Str)
  | [] => some []
  | .str z :: ds => (asStrs ds).map (z :: ·)
  | _ :: _ => none
def gJoin : PyData → PyData → Option PyData
  | .str a, .list ds => (asStrs ds).bind fun ys => if (ys.map (·.length)).sum + ys.length * a.length ≤ 100000 then some (.str (Txt.join a ys)) else none
  | _, _ => none
def asL : PyData → Option (List PyData)
  | .list ds => some ds
  | _ => none
def asLS : PyData → Option (List PyData)
  | .list ds => some ds
  | .dict [(.none, .list ds)] => some ds
  | _ => none
def asLT : PyData → Option (List PyData)
  | .list ds => some ds
  | .tuple ds => some ds
  | .dict [(.none, .list ds)] => some ds
  | _ => none
def n1 (g : PyData → Option (List PyData)) (f : Env → Option PyData) : Env → Option (List PyData) := fun env => (f env).bind g
def nCat (a b : Env → Option PyData) : Env → Option (List PyData) := fun env => (a env).bind fun x => (b env).bind fun y => (asL x).bind fun xs => (asL y).bind fun ys => if xs.length + ys.length ≤ 100000 then some (xs ++ ys) else none
def nSl (f : Env → Option PyData) (lo hi : Env → Option (Option Int)) : Env → Option (List PyData) := fun env => (f env).bind fun x => (lo env).bind fun l => (hi env).bind fun h => (asLS x).map fun ds => cutD ds l h
def nRev (f : Env → Option PyData) : Env → Option (List PyData) := fun env => (f env).bind fun x => (asLS x).map List.reverse
def nRep (f g : Env → Option PyData) : Env → Option (List PyData) := fun env => (f env).bind fun x => (g env).bind fun y => (asL x).bind fun ds => (asI y).bind fun k => if 0 ≤ k ∧ k ≤ 100000 ∧ ds.length * k.toNat ≤ 100000 then some (List.replicate k.toNat ds).flatten else none
def eSlS (f : Env → Option PyData) (lo hi : Env → Option (Option Int)) : Env → Option PyData := fun env => (f env).bind fun x => (lo env).bind fun l => (hi env).bind fun h => match x with
  | .str z => if z.length ≤ 100000 then some (.str (cutS z l h)) else none
  | _ => none
def eSlT (f : Env → Option PyData) (lo hi : Env → Option (Option Int)) : Env → Option PyData := fun env => (f env).bind fun x => (lo env).bind fun l => (hi env).bind fun h => match x with
  | .tuple ds => some (.tuple (cutD ds l h))
  | _ => none

section
variable {K : PySem.W.Frag} {te ta tb tx : TE} {tt tu : TT} {f fa fb fx : Env → Option PyData} {t u : Env → Option Bool} {r : R2}
theorem big (n : Nat) (h : n ≤ 100000) : n ≤ sizeLine := by rw [sizeLine_eq]; omega
theorem DenP.o (h : DenP K te f) : Den K te f := fun base O0 O σ H env d S e Q q => h base O0 O σ H env d S e Q fun v H' x r => q v H' x (.inl r)
theorem hid_free {base H : Hp} {O0 O : Hid} {σ : L2.St} {env : Env} {p : Addr} (S : Sat K base O0 O σ H env) (hp : H p = none) : O p = false := by
  cases q : O p with
  | false => rfl
  | true => exact absurd hp (S.all p q)
theorem DenN.p {f : Env → Option (List PyData)} (h : DenN K te f) : DenP K te (eL f) := by
  intro base O0 O σ H env d S e Q q
  unfold eL at e
  cases hf : f env with
  | none => simp [hf] at e
  | some ds =>
    simp [hf] at e
    subst e
    refine h base O0 O σ H env ds S hf Q fun p vs H' hp x hv r => q _ _ x ?_
    have op := hid_free S hp
    exact .lst (vis_at op hv) (r.mono hid_le)
theorem den_var {i : Nat} : Den K (tVar i) (eVarO i) := by
  intro base O0 O σ H env d S e Q q
  unfold eVarO at e
  cases h : env[i]? with
  | none => simp [h] at e
  | some s =>
    obtain ⟨x, fp, hx, k⟩ := S.at_ h
    rw [h] at e
    cases s with
    | un => cases e
    | any => cases e
    | ob s => cases e
    | sh d' =>
      cases e
      obtain ⟨⟨v, rfl, r⟩, _⟩ := k
      exact ⟨v, hx, q v H (Ex.refl H) (.inl r)⟩
    | own ds =>
      cases e
      obtain ⟨a, vs, rfl, _, _, _, h1, r⟩ := k
      exact ⟨_, hx, q _ H (Ex.refl H) (.inr (.inl ⟨a, vs, ds, rfl, h1, r, rfl⟩))⟩
theorem denP_var {i : Nat} : DenP K (tVar i) (eVar i) := by
  intro base O0 O σ H env d S e Q q
  unfold eVar at e
  cases h : env[i]? with
  | none => simp [h] at e
  | some s =>
    obtain ⟨x, fp, hx, k⟩ := S.at_ h
    rw [h] at e
    cases s with
    | un => cases e
    | any => cases e
    | own ds => cases e
    | ob s => cases e
    | sh d' =>
      cases e
      obtain ⟨⟨v, rfl, r⟩, _⟩ := k
      exact ⟨v, hx, q v H (Ex.refl H) r⟩
theorem den_int {i : Int} : DenP K (tC (.int i)) (eC (.int i)) := fun _ _ _ _ H _ _ _ e _ q => by cases e; exact q _ H (Ex.refl H) (.int i)
theorem den_bl {b : Bool} : DenP K (tC (.bl b)) (eC (.bool b)) := fun _ _ _ _ H _ _ _ e _ q => by cases e; exact q _ H (Ex.refl H) (.bl b)
theorem den_non : DenP K (tC .non) (eC .none) := fun _ _ _ _ H _ _ _ e _ q => by cases e; exact q _ H (Ex.refl H) .non
theorem den_str {z : Str} : DenP K (tC (.str z)) (eC (.str z)) := fun _ _ _ _ H _ _ _ e _ q => by cases e; exact q _ H (Ex.refl H) (.str z)

def Ok2 (K : PySem.W.Frag) (r : R2) (g : PyData → PyData → Option PyData) : Prop := ∀ (O : Hid) (H : Hp) x y d e z, (∀ a, O a = true → H a ≠ none) → Opd K O H x d → Opd K O H y e → g d e = some z → ∀ Q : VK, (∀ v H', Ex H H' → Rp K (vis O H') v z → Q v H') → r x y H Q
theorem den_op {g : PyData → PyData → Option PyData} (hr : Ok2 K r g) (ha : Den K ta fa) (hb : Den K tb fb) : DenP K (tOp r ta tb) (e2 g fa fb) := by
  intro base O0 O σ H env d S e Q q
  unfold e2 at e
  cases h1 : fa env with
  | none => simp [h1] at e
  | some x =>
    cases h2 : fb env with
    | none => simp [h1, h2] at e
    | some y =>
      simp [h1, h2] at e
      refine ha base O0 O σ H env x S h1 _ fun v H1 e1 o1 => ?_
      refine hb base O0 O σ H1 env y (S.mono e1) h2 _ fun w H2 e2 o2 => ?_
      exact hr O H2 v w x y d ((S.mono e1).mono e2).all (o1.mono e2) o2 e Q fun v H' e3 r => q v H' ((e1.trans e2).trans e3) r
theorem ok_I {f : Int → Int → Int} : Ok2 K (rI0 fun i j => .int (f i j)) (gI f) := by
  intro O H x y d e z al o1 o2 h Q q
  unfold gI at h
  split at h
  · cases h
    rw [o1.int, o2.int]
    exact ⟨_, _, rfl, rfl, q _ H (Ex.refl H) (.int _)⟩
  · cases h
theorem ok_B {f : Int → Int → Bool} : Ok2 K (rI0 fun i j => .bl (f i j)) (gB f) := by
  intro O H x y d e z al o1 o2 h Q q
  unfold gB at h
  split at h
  · cases h
    rw [o1.int, o2.int]
    exact ⟨_, _, rfl, rfl, q _ H (Ex.refl H) (.bl _)⟩
  · cases h
theorem ok_IC {C : Int → Int → Prop} {c : Int → Int → Bool} {f : Int → Int → Int} (hc : ∀ i j, c i j = true → C i j) : Ok2 K (rI C fun i j => .int (f i j)) (gIC c f) := by
  intro O H x y d e z al o1 o2 h Q q
  unfold gIC at h
  split at h
  · split at h
    · cases h
      rename_i k
      rw [o1.int, o2.int]
      exact ⟨_, _, rfl, rfl, hc _ _ k, q _ H (Ex.refl H) (.int _)⟩
    · cases h
  · cases h
theorem c_div : ∀ i j, cDiv i j = true → CDiv i j := fun i j h => by unfold cDiv at h; have := of_decide_eq_true h; exact this
theorem c_mod : ∀ i j : Int, cMod i j = true → 0 < j := fun i j h => by unfold cMod at h; exact of_decide_eq_true h
theorem c_mul : ∀ i j, cMul i j = true → CMul i j := fun i j h => by unfold cMul at h; have := of_decide_eq_true h; unfold CMul; omega
theorem ok_add : Ok2 K rAddU gAdd := by
  intro O H x y d e z al o1 o2 h Q q
  unfold gAdd at h
  split at h
  · cases h
    rw [o1.int, o2.int]
    exact .inl ⟨_, _, rfl, rfl, q _ H (Ex.refl H) (.int _)⟩
  · split at h
    · cases h
      rename_i k
      rw [o1.str, o2.str]
      exact .inr ⟨_, _, rfl, rfl, big _ k, q _ H (Ex.refl H) (.str _)⟩
    · cases h
  · cases h
theorem ok_eq : Ok2 K (rEqD K) gEq := by
  intro O H x y d e z al o1 o2 h Q q
  unfold gEq at h
  split at h
  · rename_i k
    rw [Bool.and_eq_true] at k
    cases h
    exact ⟨d, e, o1.rp.dp (SeqAt.canLay_of_shaped k.1), o2.rp.dp (SeqAt.canLay_of_shaped k.2), k.1, k.2, q _ H (Ex.refl H) (.bl _)⟩
  · cases h
theorem ok_ne : Ok2 K (rNeD K) gNe := by
  intro O H x y d e z al o1 o2 h Q q
  unfold gNe at h
  split at h
  · rename_i k
    rw [Bool.and_eq_true] at k
    cases h
    exact ⟨d, e, o1.rp.dp (SeqAt.canLay_of_shaped k.1), o2.rp.dp (SeqAt.canLay_of_shaped k.2), k.1, k.2, q _ H (Ex.refl H) (.bl _)⟩
  · cases h
theorem ok_inL : Ok2 K (rInD K) (gInL false) := by
  intro O H x y d e z al o1 o2 h Q q
  unfold gInL at h
  split at h
  · split at h
    · rename_i k
      rw [Bool.and_eq_true] at k
      cases h
      exact ⟨d, _, o1.rp.dp (SeqAt.canLay_of_shaped k.1), o2.rp.dp (SeqAt.canLay_of_shaped k.2), k.1, k.2, q _ H (Ex.refl H) (.bl _)⟩
    · cases h
  · cases h
theorem ok_niL : Ok2 K (rNotInD K) (gInL true) := by
  intro O H x y d e z al o1 o2 h Q q
  unfold gInL at h
  split at h
  · split at h
    · rename_i k
      rw [Bool.and_eq_true] at k
      cases h
      exact ⟨d, _, o1.rp.dp (SeqAt.canLay_of_shaped k.1), o2.rp.dp (SeqAt.canLay_of_shaped k.2), k.1, k.2, q _ H (Ex.refl H) (.bl _)⟩
    · cases h
  · cases h
theorem flatD_rp {O : Hid} {H : Hp} {x : V} {d : PyData} {v : V} (o : Opd K O H x d) (h : flatD d = some v) : x = v ∧ flatV v = true := by
  have r := o.rp
  cases r <;> cases h <;> exact ⟨rfl, rfl⟩
theorem vis_no {H : Hp} : Ex H (vis (fun _ => false) H) := fun a o h => vis_at rfl h
theorem flatDs_rp {H : Hp} : ∀ {xs : List V} {ds : List PyData} {vs : List V}, RpAll K H xs ds → flatDs ds = some vs → xs = vs ∧ vs.all flatV = true
  | _, _, _, .nil, h => by cases h; exact ⟨rfl, rfl⟩
  | _, _, _, .cons (d := d) (ds := ds) r t, h => by
    unfold flatDs at h
    cases h1 : flatD d with
    | none => rw [h1] at h; cases h
    | some w =>
      cases h2 : flatDs ds with
      | none => rw [h1, h2] at h; cases h
      | some ws =>
        rw [h1, h2] at h
        cases h
        obtain ⟨e1, e2⟩ := flatDs_rp t h2
        have g := flatD_rp (O := fun _ => false) (.inl (r.mono (vis_no (H := _)))) h1
        rw [e1, g.1, List.all_cons, g.2, e2]
        exact ⟨rfl, rfl⟩
theorem ok_inT : Ok2 K (rIn K false) (gInT false) := by
  intro O H x y d e z al o1 o2 h Q q
  unfold gInT at h
  split at h
  · cases h1 : flatD d with
    | none => rw [h1] at h; cases h
    | some v =>
      rename_i ds
      cases h2 : flatDs ds with
      | none => rw [h1, h2] at h; cases h
      | some vs =>
        rw [h1, h2] at h
        cases h
        obtain ⟨a, us, rfl, hs, ra⟩ := o2.tup
        obtain ⟨rfl, fv⟩ := flatD_rp o1 h1
        obtain ⟨rfl, fs⟩ := flatDs_rp ra h2
        exact ⟨a, us, rfl, .inr hs, fv, fs, q _ H (Ex.refl H) (.bl _)⟩
  · cases h
theorem ok_niT : Ok2 K (rIn K true) (gInT true) := by
  intro O H x y d e z al o1 o2 h Q q
  unfold gInT at h
  split at h
  · cases h1 : flatD d with
    | none => rw [h1] at h; cases h
    | some v =>
      rename_i ds
      cases h2 : flatDs ds with
      | none => rw [h1, h2] at h; cases h
      | some vs =>
        rw [h1, h2] at h
        cases h
        obtain ⟨a, us, rfl, hs, ra⟩ := o2.tup
        obtain ⟨rfl, fv⟩ := flatD_rp o1 h1
        obtain ⟨rfl, fs⟩ := flatDs_rp ra h2
        exact ⟨a, us, rfl, .inr hs, fv, fs, q _ H (Ex.refl H) (.bl _)⟩
  · cases h
def rInS1 : R2 := fun x y H Q => ∃ (c : Nat) (z : Str), x = .str ⟨#[c]⟩ ∧ y = .str z ∧ Q (.bl (decide (c ∈ z.cps.toList))) H
def rNiS1 : R2 := fun x y H Q => ∃ (c : Nat) (z : Str), x = .str ⟨#[c]⟩ ∧ y = .str z ∧ Q (.bl (!decide (c ∈ z.cps.toList))) H
theorem one_sign {c : Str} {k : Nat} (h : c.cps.toList = [k]) : c = ⟨#[k]⟩ := by
  cases c with
  | mk a =>
    have : a = #[k] := by
      apply Array.toList_inj.mp
      simpa using h
    rw [this]
theorem ok_inS : Ok2 K rInS1 (gInS false) := by
  intro O H x y d e z al o1 o2 h Q q
  unfold gInS at h
  split at h
  · split at h
    · rename_i k hk
      cases h
      rw [o1.str, o2.str]
      exact ⟨k, _, by rw [one_sign hk], rfl, q _ H (Ex.refl H) (.bl _)⟩
    · cases h
  · cases h
theorem ok_niS : Ok2 K rNiS1 (gInS true) := by
  intro O H x y d e z al o1 o2 h Q q
  unfold gInS at h
  split at h
  · split at h
    · rename_i k hk
      cases h
      rw [o1.str, o2.str]
      exact ⟨k, _, by rw [one_sign hk], rfl, q _ H (Ex.refl H) (.bl _)⟩
    · cases h
  · cases h
theorem ok_ix : Ok2 K (rIx K) gIx := by
  intro O H x y d e z al o1 o2 h Q q
  unfold gIx at h
  split at h
  · obtain ⟨a, vs, rfl, hv, ra⟩ := o1.lst
    obtain ⟨v, hv2, r⟩ := ra.at_ h
    rw [o2.int]
    exact .inl ⟨a, vs, _, v, rfl, rfl, SqL.of hv, hv2, q _ H (Ex.refl H) r⟩
  · obtain ⟨a, vs, rfl, hv, ra⟩ := o1.tup
    obtain ⟨v, hv2, r⟩ := ra.at_ h
    rw [o2.int]
    exact .inr (.inl ⟨a, vs, _, v, rfl, rfl, hv, hv2, q _ H (Ex.refl H) r⟩)
  · split at h
    · rename_i zz k hk
      rw [o1.str, o2.int]
      cases h2 : atI zz.cps.toList k with
      | none => rw [h2] at h; cases h
      | some c =>
        rw [h2] at h
        cases h
        exact .inr (.inr ⟨_, _, c, rfl, rfl, big _ hk, h2, q _ H (Ex.refl H) (.str _)⟩)
    · cases h
  · obtain ⟨a, ns, rfl, hv, rfl⟩ := o1.scr
    obtain ⟨v, hv2, r⟩ := (RpAll.ints (K := K) (H := vis O H) ns).at_ h
    rw [o2.int]
    exact .inl ⟨a, _, _, v, rfl, rfl, hv, hv2, q _ H (Ex.refl H) r⟩
  · cases h
/-! ### one place -/
theorem den_isN (ha : Den K ta fa) : DenP K (tOp (fun x y H Q => y = .non ∧ Q (.bl (decide (x = .non))) H) ta (tC .non)) (e1 (gIsN false) fa) := by
  intro base O0 O σ H env d S e Q q
  unfold e1 at e
  cases h1 : fa env with
  | none => simp [h1] at e
  | some x =>
    simp [h1, gIsN] at e
    subst e
    refine ha base O0 O σ H env x S h1 _ fun v H1 e1 o1 => ⟨rfl, q _ _ e1 ?_⟩
    have r := o1.rp
    cases r <;> exact .bl _
theorem den_notN (ha : Den K ta fa) : DenP K (tOp (fun x y H Q => y = .non ∧ Q (.bl (!decide (x = .non))) H) ta (tC .non)) (e1 (gIsN true) fa) := by
  intro base O0 O σ H env d S e Q q
  unfold e1 at e
  cases h1 : fa env with
  | none => simp [h1] at e
  | some x =>
    simp [h1, gIsN] at e
    subst e
    refine ha base O0 O σ H env x S h1 _ fun v H1 e1 o1 => ⟨rfl, q _ _ e1 ?_⟩
    have r := o1.rp
    cases r <;> exact .bl _
theorem den_neg (ha : Den K ta fa) : DenP K (tUn (rU fun i => .int (-i)) ta) (e1 gNeg fa) := by
  intro base O0 O σ H env d S e Q q
  unfold e1 at e
  cases h1 : fa env with
  | none => simp [h1] at e
  | some x =>
    simp [h1] at e
    refine ha base O0 O σ H env x S h1 _ fun v H1 e1 o1 => ?_
    unfold gNeg at e
    split at e
    · cases e
      rw [o1.int]
      exact ⟨_, rfl, q _ _ e1 (.int _)⟩
    · cases e
/-! ### tests -/
theorem den_val (h : Den K te f) : DenT K (tB te) (tE f) := by
  intro base O0 O σ H env b S e Q q
  unfold tE at e
  cases h1 : f env with
  | none => simp [h1] at e
  | some x =>
    simp [h1] at e
    refine h base O0 O σ H env x S h1 _ fun v H1 e1 o1 => ?_
    unfold asB at e
    split at e
    · cases e
      exact ⟨_, o1.bl, q _ e1⟩
    · cases e
theorem den_test (h : Den K te f) : DenT K (tTest te) (tE f) := by
  intro base O0 O σ H env b S e Q q
  unfold tE at e
  cases h1 : f env with
  | none => simp [h1] at e
  | some x =>
    simp [h1] at e
    refine h base O0 O σ H env x S h1 _ fun v H1 e1 o1 => ?_
    unfold asB at e
    split at e
    · cases e
      exact ⟨_, o1.bl, q _ e1⟩
    · cases e
theorem den_and (h1 : DenT K tt t) (h2 : DenT K tu u) : DenT K (tAnd tt tu) (tA t u) := by
  intro base O0 O σ H env b S e Q q
  unfold tA at e
  cases k1 : t env with
  | none => simp [k1] at e
  | some x =>
    simp [k1] at e
    refine h1 base O0 O σ H env x S k1 _ fun H1 x1 => ?_
    cases x with
    | true =>
      show tu σ H1 Q
      exact h2 base O0 O σ H1 env b (S.mono x1) (by simpa using e) Q fun H2 x2 => q H2 (x1.trans x2)
    | false =>
      show Q false H1
      have : false = b := by simpa using e
      subst this
      exact q H1 x1
theorem den_or (h1 : DenT K tt t) (h2 : DenT K tu u) : DenT K (tOr tt tu) (tO t u) := by
  intro base O0 O σ H env b S e Q q
  unfold tO at e
  cases k1 : t env with
  | none => simp [k1] at e
  | some x =>
    simp [k1] at e
    refine h1 base O0 O σ H env x S k1 _ fun H1 x1 => ?_
    cases x with
    | false =>
      show tu σ H1 Q
      exact h2 base O0 O σ H1 env b (S.mono x1) (by simpa using e) Q fun H2 x2 => q H2 (x1.trans x2)
    | true =>
      show Q true H1
      have : true = b := by simpa using e
      subst this
      exact q H1 x1
theorem den_not (h1 : DenT K tt t) : DenT K (tNot tt) (tN t) := by
  intro base O0 O σ H env b S e Q q
  unfold tN at e
  cases k1 : t env with
  | none => simp [k1] at e
  | some x =>
    rw [k1] at e
    cases e
    exact h1 base O0 O σ H env x S k1 _ fun H1 x1 => q H1 x1
theorem denT_yes : DenT K tYes (fun _ => some true) := fun _ _ _ _ H _ _ _ e _ q => by cases e; exact q H (Ex.refl H)
theorem den_andV (ha : Den K ta fa) (hb : DenP K tb fb) : DenP K (tAndV ta tb) (eAndB fa fb) := by
  intro base O0 O σ H env d S e Q q
  unfold eAndB tE at e
  cases k1 : fa env with
  | none => simp [k1] at e
  | some x =>
    simp [k1] at e
    refine ha base O0 O σ H env x S k1 _ fun v H1 x1 o1 => ?_
    unfold asB at e
    split at e
    · refine ⟨_, o1.bl, ?_⟩
      rename_i c
      cases c with
      | true =>
        show tb σ H1 Q
        exact hb base O0 O σ H1 env d (S.mono x1) (by simpa using e) Q fun v H2 x2 r => q v H2 (x1.trans x2) r
      | false =>
        show Q (.bl false) H1
        have : PyData.bool false = d := by simpa using e
        subst this
        exact q _ H1 x1 (.bl _)
    · simp at e
theorem den_orV (ha : Den K ta fa) (hb : DenP K tb fb) : DenP K (tOrV ta tb) (eOrB fa fb) := by
  intro base O0 O σ H env d S e Q q
  unfold eOrB tE at e
  cases k1 : fa env with
  | none => simp [k1] at e
  | some x =>
    simp [k1] at e
    refine ha base O0 O σ H env x S k1 _ fun v H1 x1 o1 => ?_
    unfold asB at e
    split at e
    · refine ⟨_, o1.bl, ?_⟩
      rename_i c
      cases c with
      | false =>
        show tb σ H1 Q
        exact hb base O0 O σ H1 env d (S.mono x1) (by simpa using e) Q fun v H2 x2 r => q v H2 (x1.trans x2) r
      | true =>
        show Q (.bl true) H1
        have : PyData.bool true = d := by simpa using e
        subst this
        exact q _ H1 x1 (.bl _)
    · simp at e
theorem den_notV (ha : Den K ta fa) : DenP K (tNotV ta) (eNotB fa) := by
  intro base O0 O σ H env d S e Q q
  unfold eNotB tN tE at e
  cases k1 : fa env with
  | none => simp [k1] at e
  | some x =>
    rw [k1] at e
    refine ha base O0 O σ H env x S k1 _ fun v H1 x1 o1 => ?_
    rw [Option.bind_some] at e
    unfold asB at e
    split at e
    · cases e
      exact ⟨_, o1.bl, q _ _ x1 (.bl _)⟩
    · cases e
theorem den_if (ht : DenT K tt t) (ha : DenP K ta fa) (hb : DenP K tb fb) : DenP K (tIf tt ta tb) (eIf t fa fb) := by
  intro base O0 O σ H env d S e Q q
  unfold eIf at e
  cases k1 : t env with
  | none => simp [k1] at e
  | some x =>
    simp [k1] at e
    refine ht base O0 O σ H env x S k1 _ fun H1 x1 => ?_
    cases x with
    | true =>
      show ta σ H1 Q
      exact ha base O0 O σ H1 env d (S.mono x1) (by simpa using e) Q fun v H2 x2 r => q v H2 (x1.trans x2) r
    | false =>
      show tb σ H1 Q
      exact hb base O0 O σ H1 env d (S.mono x1) (by simpa using e) Q fun v H2 x2 r => q v H2 (x1.trans x2) r
/-! ### arguments, displays -/
variable {tr : TA} {fr fs : Env → Option (List PyData)}
theorem den_anil : DenA K tNil aNil := fun _ _ _ _ H _ _ _ e _ q => by cases e; exact q _ H (Ex.refl H) .nil
theorem den_apnil : DenAP K tNil aNil := fun _ _ _ _ H _ _ _ e _ q => by cases e; exact q _ H (Ex.refl H) .nil
theorem den_acons (h : Den K te f) (hr : DenA K tr fr) : DenA K (tCons te tr) (aCons f fr) := by
  intro base O0 O σ H env ds S e Q q
  unfold aCons at e
  cases k1 : f env with
  | none => simp [k1] at e
  | some x =>
    cases k2 : fr env with
    | none => simp [k1, k2] at e
    | some xs =>
      simp [k1, k2] at e
      subst e
      refine h base O0 O σ H env x S k1 _ fun v H1 x1 o1 => ?_
      exact hr base O0 O σ H1 env xs (S.mono x1) k2 _ fun vs H2 x2 r => q _ H2 (x1.trans x2) (.cons (o1.mono x2) r)
theorem den_apcons (h : DenP K te f) (hr : DenAP K tr fr) : DenAP K (tCons te tr) (aCons f fr) := by
  intro base O0 O σ H env ds S e Q q
  unfold aCons at e
  cases k1 : f env with
  | none => simp [k1] at e
  | some x =>
    cases k2 : fr env with
    | none => simp [k1, k2] at e
    | some xs =>
      simp [k1, k2] at e
      subst e
      refine h base O0 O σ H env x S k1 _ fun v H1 x1 o1 => ?_
      exact hr base O0 O σ H1 env xs (S.mono x1) k2 _ fun vs H2 x2 r => q _ H2 (x1.trans x2) (.cons (o1.mono (vis_mono x2)) r)
theorem short_some {ds es : List PyData} (h : short ds = some es) : ds = es ∧ ds.length ≤ 100000 := by
  unfold short at h
  split at h
  · cases h
    exact ⟨rfl, by assumption⟩
  · cases h
theorem den_tup (h : DenAP K tr fr) : DenP K (tTup tr) (eTup fr) := by
  intro base O0 O σ H env d S e Q q
  unfold eTup at e
  cases k1 : fr env with
  | none => simp [k1] at e
  | some xs =>
    simp [k1] at e
    obtain ⟨es, k2, rfl⟩ := e
    obtain ⟨rfl, hz⟩ := short_some k2
    refine h base O0 O σ H env xs S k1 _ fun vs H1 x1 r => ⟨by rw [r.length]; exact big _ hz, fun p hp => ?_⟩
    have op := hid_free (S.mono x1) hp
    refine q _ _ (x1.trans (Ex.new hp)) (.tup (SqT.of (vis_at op upd_same)) (r.mono (vis_mono (Ex.new hp))))
theorem den_lst (h : DenAP K tr fr) : DenN K (tLst tr) (nLst fr) := by
  intro base O0 O σ H env d S e Q q
  unfold nLst at e
  cases k1 : fr env with
  | none => simp [k1] at e
  | some xs =>
    simp [k1] at e
    obtain ⟨rfl, hz⟩ := short_some e
    refine h base O0 O σ H env xs S k1 _ fun vs H1 x1 r => ⟨by rw [r.length]; exact big _ hz, fun p hp => ?_⟩
    exact q p vs _ (x1.free hp) (x1.trans (Ex.new hp)) upd_same (r.mono (vis_hid hp (Ex.new hp)))
/-! ### parts of a slice -/
theorem den_onone : DenO K tNoPart oNone := fun _ _ _ _ H _ _ _ e _ q => by cases e; exact q H (Ex.refl H)
theorem den_osome (h : Den K te f) : DenO K (tPart te) (oSome f) := by
  intro base O0 O σ H env o S e Q q
  unfold oSome at e
  cases k1 : f env with
  | none => simp [k1] at e
  | some x =>
    simp [k1] at e
    refine h base O0 O σ H env x S k1 _ fun v H1 x1 o1 => ?_
    obtain ⟨i, k2, rfl⟩ := e
    unfold asI at k2
    split at k2
    · cases k2
      exact ⟨_, o1.int, q H1 x1⟩
    · cases k2
theorem asLS_opd {O : Hid} {H : Hp} {v : V} {d : PyData} {ds : List PyData} (o : Opd K O H v d) (h : asLS d = some ds) : ∃ a vs, v = .ref a ∧ SqL K H a vs ∧ RpAll K (vis O H) vs ds := by
  unfold asLS at h
  split at h
  · cases h
    obtain ⟨a, vs, e, h1, r⟩ := o.lst
    exact ⟨a, vs, e, SqL.of h1, r⟩
  · cases h
    obtain ⟨a, ns, e, h1, rfl⟩ := o.scr
    exact ⟨a, _, e, h1, RpAll.ints ns⟩
  · cases h
theorem asLT_opd {O : Hid} {H : Hp} {v : V} {d : PyData} {ds : List PyData} (o : Opd K O H v d) (h : asLT d = some ds) : ∃ a vs, v = .ref a ∧ (SqL K H a vs ∨ SqT K H a vs) ∧ RpAll K (vis O H) vs ds := by
  unfold asLT at h
  split at h
  · cases h
    obtain ⟨a, vs, e, h1, r⟩ := o.lst
    exact ⟨a, vs, e, .inl (SqL.of h1), r⟩
  · cases h
    obtain ⟨a, vs, e, h1, r⟩ := o.tup
    exact ⟨a, vs, e, .inr h1, r⟩
  · cases h
    obtain ⟨a, ns, e, h1, rfl⟩ := o.scr
    exact ⟨a, _, e, .inl h1, RpAll.ints ns⟩
  · cases h
theorem asL_opd {O : Hid} {H : Hp} {v : V} {d : PyData} {ds : List PyData} (o : Opd K O H v d) (h : asL d = some ds) : ∃ a vs, v = .ref a ∧ H a = some (.lst vs) ∧ RpAll K (vis O H) vs ds := by
  unfold asL at h
  split at h
  · cases h
    exact o.lst
  · cases h
variable {tl th : TO} {fl fh : Env → Option (Option Int)}
theorem den_slL (h : Den K te f) (hl : DenO K tl fl) (hh : DenO K th fh) : DenN K (tSl (rSlL K) te tl th) (nSl f fl fh) := by
  intro base O0 O σ H env ds S e Q q
  unfold nSl at e
  cases k1 : f env with
  | none => simp [k1] at e
  | some x =>
    cases k2 : fl env with
    | none => simp [k1, k2] at e
    | some l =>
      cases k3 : fh env with
      | none => simp [k1, k2, k3] at e
      | some u =>
        simp [k1, k2, k3] at e
        obtain ⟨es, k4, rfl⟩ := e
        refine h base O0 O σ H env x S k1 _ fun v H1 x1 o1 => ?_
        refine hl base O0 O σ H1 env l (S.mono x1) k2 _ fun H2 x2 => ?_
        refine hh base O0 O σ H2 env u ((S.mono x1).mono x2) k3 _ fun H3 x3 => ?_
        obtain ⟨a, vs, rfl, hs, r⟩ := asLS_opd ((o1.mono x2).mono x3) k4
        refine ⟨a, vs, rfl, hs, fun p hp => ?_⟩
        exact q p _ _ (((x1.trans x2).trans x3).free hp) (((x1.trans x2).trans x3).trans (Ex.new hp)) upd_same ((r.cut l u).mono (vis_hid hp (Ex.new hp)))
theorem den_slS (h : Den K te f) (hl : DenO K tl fl) (hh : DenO K th fh) : DenP K (tSl rSlS te tl th) (eSlS f fl fh) := by
  intro base O0 O σ H env d S e Q q
  unfold eSlS at e
  cases k1 : f env with
  | none => simp [k1] at e
  | some x =>
    cases k2 : fl env with
    | none => simp [k1, k2] at e
    | some l =>
      cases k3 : fh env with
      | none => simp [k1, k2, k3] at e
      | some u =>
        simp only [k1, k2, k3, Option.bind_some] at e
        refine h base O0 O σ H env x S k1 _ fun v H1 x1 o1 => ?_
        refine hl base O0 O σ H1 env l (S.mono x1) k2 _ fun H2 x2 => ?_
        refine hh base O0 O σ H2 env u ((S.mono x1).mono x2) k3 _ fun H3 x3 => ?_
        split at e
        · split at e
          · rename_i hz
            cases e
            exact ⟨_, o1.str, big _ hz, q _ _ ((x1.trans x2).trans x3) (.str _)⟩
          · cases e
        · cases e
theorem den_slT (h : Den K te f) (hl : DenO K tl fl) (hh : DenO K th fh) : DenP K (tSl (rSlA K) te tl th) (eSlT f fl fh) := by
  intro base O0 O σ H env d S e Q q
  unfold eSlT at e
  cases k1 : f env with
  | none => simp [k1] at e
  | some x =>
    cases k2 : fl env with
    | none => simp [k1, k2] at e
    | some l =>
      cases k3 : fh env with
      | none => simp [k1, k2, k3] at e
      | some u =>
        simp only [k1, k2, k3, Option.bind_some] at e
        refine h base O0 O σ H env x S k1 _ fun v H1 x1 o1 => ?_
        refine hl base O0 O σ H1 env l (S.mono x1) k2 _ fun H2 x2 => ?_
        refine hh base O0 O σ H2 env u ((S.mono x1).mono x2) k3 _ fun H3 x3 => ?_
        split at e
        · cases e
          rename_i ds
          have o3 := (o1.mono x2).mono x3
          rcases o3 with o3 | ⟨a, vs, es, _, _, _, z⟩ | ⟨_, z, _⟩
          · cases o3 with
            | @tup a vs _ hs r =>
              refine ⟨a, vs, rfl, ex_t vis_le hs, fun hc => ?_, fun _ p hp => ?_⟩
              · refine q _ _ ((x1.trans x2).trans x3) (.tup hs ?_)
                have e1 : cutD ds l u = ds := by
                  unfold cutD
                  rw [r.length] at hc
                  rw [hc.1, hc.2, List.drop_zero, Nat.sub_zero, List.take_length]
                rw [e1]
                exact r
              · have op := hid_free (((S.mono x1).mono x2).mono x3) hp
                exact q _ _ (((x1.trans x2).trans x3).trans (Ex.new hp)) (.tup (SqT.of (vis_at op upd_same)) ((r.cut l u).mono (vis_mono (Ex.new hp))))
          · cases z
          · cases z
        · cases e
theorem den_rev (h : Den K te f) : DenN K (tRevL K te) (nRev f) := by
  intro base O0 O σ H env ds S e Q q
  unfold nRev at e
  cases k1 : f env with
  | none => simp [k1] at e
  | some x =>
    simp [k1] at e
    obtain ⟨es, k4, rfl⟩ := e
    refine h base O0 O σ H env x S k1 _ fun v H1 x1 o1 => ?_
    obtain ⟨a, vs, rfl, hs, r⟩ := asLS_opd o1 k4
    exact ⟨a, vs, rfl, hs, fun p hp => q p _ _ (x1.free hp) (x1.trans (Ex.new hp)) upd_same (r.reverse.mono (vis_hid hp (Ex.new hp)))⟩
theorem den_cat (ha : Den K ta fa) (hb : Den K tb fb) : DenN K (tOp rCat ta tb) (nCat fa fb) := by
  intro base O0 O σ H env ds S e Q q
  unfold nCat at e
  cases k1 : fa env with
  | none => simp [k1] at e
  | some x =>
    cases k2 : fb env with
    | none => simp [k1, k2] at e
    | some y =>
      simp only [k1, k2, Option.bind_some] at e
      cases k3 : asL x with
      | none => simp [k3] at e
      | some xs =>
        cases k4 : asL y with
        | none => simp [k3, k4] at e
        | some ys =>
          simp only [k3, k4, Option.bind_some] at e
          split at e
          · rename_i hz
            cases e
            refine ha base O0 O σ H env x S k1 _ fun v H1 x1 o1 => ?_
            refine hb base O0 O σ H1 env y (S.mono x1) k2 _ fun w H2 x2 o2 => ?_
            obtain ⟨a, vs, rfl, h1, r1⟩ := asL_opd (o1.mono x2) k3
            obtain ⟨b, ws, rfl, h2, r2⟩ := asL_opd o2 k4
            exact ⟨a, b, vs, ws, rfl, rfl, h1, h2, by rw [r1.length, r2.length]; exact big _ hz, fun p hp => q p _ _ ((x1.trans x2).free hp) ((x1.trans x2).trans (Ex.new hp)) upd_same ((r1.append r2).mono (vis_hid hp (Ex.new hp)))⟩
          · cases e
theorem RpAll.flat {H : Hp} {vs : List V} {ds : List PyData} (r : RpAll K H vs ds) : ∀ n : Nat, RpAll K H (List.replicate n vs).flatten (List.replicate n ds).flatten
  | 0 => .nil
  | n + 1 => by
    rw [List.replicate_succ, List.replicate_succ, List.flatten_cons, List.flatten_cons]
    exact r.append (RpAll.flat r n)
theorem den_rep (ha : Den K ta fa) (hb : Den K tb fb) : DenN K (tOp rRep ta tb) (nRep fa fb) := by
  intro base O0 O σ H env ds S e Q q
  unfold nRep at e
  cases k1 : fa env with
  | none => simp [k1] at e
  | some x =>
    cases k2 : fb env with
    | none => simp [k1, k2] at e
    | some y =>
      simp only [k1, k2, Option.bind_some] at e
      cases k3 : asL x with
      | none => simp [k3] at e
      | some xs =>
        cases k4 : asI y with
        | none => simp [k3, k4] at e
        | some n =>
          simp only [k3, k4, Option.bind_some] at e
          split at e
          · rename_i hz
            cases e
            refine ha base O0 O σ H env x S k1 _ fun v H1 x1 o1 => ?_
            refine hb base O0 O σ H1 env y (S.mono x1) k2 _ fun w H2 x2 o2 => ?_
            obtain ⟨a, vs, rfl, h1, r1⟩ := asL_opd (o1.mono x2) k3
            have : w = .int n := by
              unfold asI at k4
              split at k4
              · cases k4
                exact o2.int
              · cases k4
            subst this
            exact ⟨a, n, vs, rfl, rfl, h1, by omega, by omega, by rw [r1.length]; exact big _ hz.2.2, fun p hp => q p _ _ ((x1.trans x2).free hp) ((x1.trans x2).trans (Ex.new hp)) upd_same ((r1.flat n.toNat).mono (vis_hid hp (Ex.new hp)))⟩
          · cases e
/-! ### built-ins -/
def OkC (K : PySem.W.Frag) (r : List V → Hp → VK → Prop) (g : List PyData → Option PyData) : Prop := ∀ (O : Hid) (H : Hp) vs ds z, (∀ a, O a = true → H a ≠ none) → OpdAll K O H vs ds → g ds = some z → ∀ Q : VK, (∀ v H', Ex H H' → Rp K (vis O H') v z → Q v H') → r vs H Q
theorem den_cb {r : List V → Hp → VK → Prop} {g : List PyData → Option PyData} (hr : OkC K r g) (h : DenA K tr fr) : DenP K (tCB r tr) (eA g fr) := by
  intro base O0 O σ H env d S e Q q
  unfold eA at e
  cases k1 : fr env with
  | none => simp [k1] at e
  | some xs =>
    simp [k1] at e
    refine h base O0 O σ H env xs S k1 _ fun vs H1 x1 r1 => ?_
    exact hr O H1 vs xs d (S.mono x1).all r1 e Q fun v H' x2 r2 => q v H' (x1.trans x2) r2
theorem okc_len : OkC K (fun xs H Q => ∃ x n, xs = [x] ∧ LenV K x H n ∧ Q (.int n) H) gLen := by
  intro O H vs ds z al o e Q q
  unfold gLen at e
  split at e
  · cases o with
    | cons o t =>
      cases t
      unfold dLen at e
      split at e
      · cases e
        obtain ⟨a, vs, rfl, h1, r⟩ := o.lst
        exact ⟨_, _, rfl, .inl ⟨vs, SqL.of h1, rfl⟩, by rw [r.length]; exact q _ H (Ex.refl H) (.int _)⟩
      · cases e
        obtain ⟨a, vs, rfl, h1, r⟩ := o.tup
        exact ⟨_, _, rfl, .inr ⟨vs, h1, rfl⟩, by rw [r.length]; exact q _ H (Ex.refl H) (.int _)⟩
      · split at e
        · rename_i hz
          cases e
          rw [o.str]
          exact ⟨_, _, rfl, ⟨big _ hz, rfl⟩, q _ H (Ex.refl H) (.int _)⟩
        · cases e
      · cases e
        obtain ⟨a, ns, rfl, h1, rfl⟩ := o.scr
        exact ⟨_, _, rfl, .inl ⟨_, h1, rfl⟩, by have z := q _ H (Ex.refl H) (.int _); rw [List.length_map] at z ⊢; exact z⟩
      · cases e
  · cases e
theorem okc_abs : OkC K (fun xs H Q => ∃ i, xs = [.int i] ∧ Q (.int (if i < 0 then -i else i)) H) gAbs := by
  intro O H vs ds z al o e Q q
  unfold gAbs at e
  split at e
  · cases o with
    | cons o t =>
      cases t
      cases e
      rw [o.int]
      exact ⟨_, rfl, q _ H (Ex.refl H) (.int _)⟩
  · cases e
theorem okc_max : OkC K (fun xs H Q => ∃ i j, xs = [.int i, .int j] ∧ Q (.int (if j > i then j else i)) H) gMax := by
  intro O H vs ds z al o e Q q
  unfold gMax at e
  split at e
  · cases o with
    | cons o t =>
      cases t with
      | cons o2 t =>
        cases t
        cases e
        rw [o.int, o2.int]
        exact ⟨_, _, rfl, q _ H (Ex.refl H) (.int _)⟩
  · cases e
theorem okc_int : OkC K (fun xs H Q => (∃ i, xs = [.int i] ∧ Q (.int i) H) ∨ ∃ k, xs = [.bl k] ∧ Q (.int (if k then 1 else 0)) H) gInt := by
  intro O H vs ds z al o e Q q
  unfold gInt at e
  split at e
  · cases o with
    | cons o t =>
      cases t
      cases e
      rw [o.int]
      exact .inl ⟨_, rfl, q _ H (Ex.refl H) (.int _)⟩
  · cases o with
    | cons o t =>
      cases t
      cases e
      rw [o.bl]
      exact .inr ⟨_, rfl, q _ H (Ex.refl H) (.int _)⟩
  · cases e
theorem tyx_l {H : Hp} {a : Addr} {vs : List V} (h : SqL K H a vs) : TyX K H (.ref a) (.type "list") := by
  rcases h with (h | ⟨o, h⟩) | ⟨o, its, n, h1, h2, _⟩
  · exact .base (.lst h)
  · exact .base (.frz h)
  · exact .kList h1 h2
theorem tyx_t {H : Hp} {a : Addr} {vs : List V} (h : SqT K H a vs) : TyX K H (.ref a) (.type "tuple") := by
  rcases h with (h | ⟨o, h⟩) | ⟨o, its, n, h1, h2, _⟩
  · exact .base (.tup h)
  · exact .fTuple h
  · exact .kTuple h1 h2
theorem tyD_x {O : Hid} {H : Hp} {v : V} {d : PyData} {s : String} (o : Opd K O H v d) (h : tyD d = some s) : TyX K H v (.type s) := by
  have r := o.rp
  cases r with
  | non => cases h; exact .base .non
  | bl b => cases h; exact .base (.bl b)
  | int i => cases h; exact .base (.int i)
  | str x => cases h; exact .base (.str x)
  | lst h1 _ => cases h; exact tyx_l (SqL.of h1)
  | tup h1 _ => cases h; exact tyx_t h1
  | dic h1 _ _ =>
    rename_i ks xs ds _ _
    generalize kvP ks ds = kvs at h
    cases kvs with
    | nil => cases h; exact .base (.dK h1)
    | cons _ _ => cases h
  | scr h1 => cases h
theorem den_isi {n : String} (h : Den K te f) : DenP K (tCB (rIsi K) (tCons te (tCons (tC (.ty n)) tNil))) (e1 (gIsi n) f) := by
  intro base O0 O σ H env d S e Q q
  unfold e1 at e
  cases k1 : f env with
  | none => simp [k1] at e
  | some x =>
    simp only [k1, Option.bind_some, gIsi] at e
    cases k2 : tyD x with
    | none => simp [k2] at e
    | some s =>
      simp only [k2, Option.bind_some] at e
      cases k3 : kitB s n with
      | none => simp [k3] at e
      | some b =>
        simp only [k3, Option.map_some] at e
        cases e
        refine h base O0 O σ H env x S k1 _ fun v H1 x1 o1 => ?_
        exact ⟨v, .ty n, .type s, .type n, b, rfl, .ty n, tyD_x o1 k2, kit_ty k3, q _ _ x1 (.bl b)⟩
theorem asStrs_rp {H : Hp} : ∀ {vs : List V} {ds : List PyData} {ys : List Str}, RpAll K H vs ds → asStrs ds = some ys → vs = ys.map V.str
  | _, _, _, .nil, h => by cases h; rfl
  | _, _, _, .cons (d := d) (ds := ds) r t, h => by
    cases d with
    | str z =>
      have h' : (asStrs ds).map (z :: ·) = some _ := h
      cases k : asStrs ds with
      | none => rw [k] at h'; cases h'
      | some zs =>
        rw [k] at h'
        cases h'
        cases r
        rw [asStrs_rp t k]
        rfl
    | _ => cases h
def rJoin (K : PySem.W.Frag) : V → List V → Hp → VK → Prop := fun x xs H Q => ∃ a p, ∃ ys : List Str, x = .str a ∧ xs = [.ref p] ∧ (SqL K H p (ys.map V.str) ∨ SqT K H p (ys.map V.str)) ∧ (ys.map (·.length)).sum + ys.length * a.length ≤ 16777216 ∧ Q (.str (Txt.join a ys)) H
theorem den_join (ha : Den K ta fa) (hb : Den K tb fb) : DenP K (tM1 (rJoin K) ta tb) (e2 gJoin fa fb) := by
  intro base O0 O σ H env d S e Q q
  unfold e2 at e
  cases h1 : fa env with
  | none => simp [h1] at e
  | some x =>
    cases h2 : fb env with
    | none => simp [h1, h2] at e
    | some y =>
      simp only [h1, h2, Option.bind_some] at e
      unfold gJoin at e
      split at e
      · rename_i a ds
        cases k : asStrs ds with
        | none => simp [k] at e
        | some ys =>
          simp only [k, Option.bind_some] at e
          split at e
          · rename_i hz
            cases e
            refine ha base O0 O σ H env _ S h1 _ fun v H1 x1 o1 => ⟨⟨_, o1.str⟩, ?_⟩
            refine hb base O0 O σ H1 env _ (S.mono x1) h2 _ fun w H2 x2 o2 => ?_
            obtain ⟨p, vs, rfl, h3, r⟩ := o2.lst
            refine ⟨a, p, ys, o1.str, rfl, .inl ?_, by omega, q _ _ (x1.trans x2) (.str _)⟩
            rw [← asStrs_rp r k]
            exact SqL.of h3
          · cases e
      · cases e
/-- list(x) -/
def nList (f : Env → Option (List PyData)) : Env → Option (List PyData) := fun env => (f env).bind fun
  | [d] => asLT d
  | _ => none
theorem den_list (h : DenA K tr fr) : DenN K (tCB (fun xs H Q => ∃ p ys, xs = [.ref p] ∧ (SqL K H p ys ∨ SqT K H p ys) ∧ ∀ l, H l = none → Q (.ref l) (upd H l (.lst ys))) tr) (nList fr) := by
  intro base O0 O σ H env ds S e Q q
  unfold nList at e
  cases k1 : fr env with
  | none => simp [k1] at e
  | some xs =>
    simp only [k1, Option.bind_some] at e
    split at e
    · refine h base O0 O σ H env _ S k1 _ fun vs H1 x1 r1 => ?_
      cases r1 with
      | cons o t =>
        cases t
        obtain ⟨a, ws, rfl, h1, r⟩ := asLT_opd o e
        exact ⟨a, ws, rfl, h1, fun p hp => q p _ _ (x1.free hp) (x1.trans (Ex.new hp)) upd_same (r.mono (vis_hid hp (Ex.new hp)))⟩
    · cases e
end
end PL
namespace PL
open PySem L2

/-! ### what is walked -/
/-- J gives the items ds; Bs holds what is walked, Bi the items -/
def ItOk (K : PySem.W.Frag) (Bs Bi : Hp) (J : It) (ds : List PyData) : Prop := ∀ (O : Hid) (H : Hp), (∀ a, O a = true → H a ≠ none) → Ex Bs H → Ex Bi (vis O H) →
  (∀ i d, ds[i]? = some d → J.go i H ∧ ∀ x H2, J.yld i H x H2 → Ex H H2 ∧ Rp K (vis O H2) x d) ∧ ∀ i, ds.length ≤ i → J.stop i H
def DenI (K : PySem.W.Frag) (wi : TI) (f : Env → Option (List PyData)) : Prop := ∀ base O0 O σ H env ds, Sat K base O0 O σ H env → f env = some ds → ∀ R : It → Hp → Prop, (∀ J H', Ex H H' → ItOk K (vis O H') (vis O H') J ds → R J H') → wi σ H R
/-- .. that may be hidden (for a comprehension) -/
def DenIO (K : PySem.W.Frag) (wi : TI) (f : Env → Option (List PyData)) : Prop := ∀ base O0 O σ H env ds, Sat K base O0 O σ H env → f env = some ds → ∀ R : It → Hp → Prop, (∀ J H', Ex H H' → ItOk K H' (vis O H') J ds → R J H') → wi σ H R
section
variable {K : PySem.W.Frag} {te ta tb tx : TE} {tr : TA} {f fa fb : Env → Option PyData} {fr : Env → Option (List PyData)} {wi : TI} {fi : Env → Option (List PyData)}
theorem DenI.o (h : DenI K wi fi) : DenIO K wi fi := fun base O0 O σ H env ds S e R q => h base O0 O σ H env ds S e R fun J H' x it => q J H' x fun O2 H2 al e1 e2 => it O2 H2 al (vis_le.trans e1) e2
theorem sql_eq {H : Hp} {a : Addr} {vs : List V} (h : H a = some (.lst vs)) (hn : ∀ xs, SqL K H a xs → xs = vs) : True := trivial
/-- the items of a list that stands, item by item -/
theorem it_lst {Bs Bi : Hp} {a : Addr} {vs : List V} {ds : List PyData} (h : SqL K Bs a vs) (r : RpAll K Bi vs ds) : ItOk K Bs Bi (Itl K a) ds := fun O H al e1 e2 =>
  ⟨fun i d hd => by
    obtain ⟨v, hv, rv⟩ := r.get hd
    refine ⟨⟨vs, v, ex_l e1 h, hv⟩, fun x H2 y => ?_⟩
    obtain ⟨rfl, y⟩ := y
    have z := y vs (ex_l e1 h)
    rw [hv] at z
    cases z
    exact ⟨Ex.refl _, rv.mono e2⟩, fun i hi => ⟨vs, ex_l e1 h, by rw [r.length]; exact hi⟩⟩
theorem it_tup {Bs Bi : Hp} {a : Addr} {vs : List V} {ds : List PyData} (h : SqT K Bs a vs) (r : RpAll K Bi vs ds) : ItOk K Bs Bi (Itt K a) ds := fun O H al e1 e2 =>
  ⟨fun i d hd => by
    obtain ⟨v, hv, rv⟩ := r.get hd
    refine ⟨⟨vs, v, ex_t e1 h, hv⟩, fun x H2 y => ?_⟩
    obtain ⟨rfl, y⟩ := y
    have z := y vs (ex_t e1 h)
    rw [hv] at z
    cases z
    exact ⟨Ex.refl _, rv.mono e2⟩, fun i hi => ⟨vs, ex_t e1 h, by rw [r.length]; exact hi⟩⟩
def iLS (f : Env → Option PyData) : Env → Option (List PyData) := fun env => (f env).bind asLS
def asT : PyData → Option (List PyData)
  | .tuple ds => some ds
  | _ => none
def iT (f : Env → Option PyData) : Env → Option (List PyData) := fun env => (f env).bind asT
theorem den_ilo (h : Den K te f) : DenIO K (iList K te) (iLS f) := by
  intro base O0 O σ H env ds S e R q
  unfold iLS at e
  cases k1 : f env with
  | none => simp [k1] at e
  | some x =>
    simp only [k1, Option.bind_some] at e
    refine h base O0 O σ H env x S k1 _ fun v H1 x1 o1 => ?_
    obtain ⟨a, vs, rfl, hs, r⟩ := asLS_opd o1 e
    exact ⟨a, rfl, ⟨vs, hs⟩, q _ H1 x1 (it_lst hs r)⟩
theorem den_il (h : DenP K te f) : DenI K (iList K te) (iLS f) := by
  intro base O0 O σ H env ds S e R q
  unfold iLS at e
  cases k1 : f env with
  | none => simp [k1] at e
  | some x =>
    simp only [k1, Option.bind_some] at e
    refine h base O0 O σ H env x S k1 _ fun v H1 x1 o1 => ?_
    have no : Opd K (fun _ => false) (vis O H1) v x := .inl (o1.mono vis_no)
    obtain ⟨a, vs, rfl, hs, r⟩ := asLS_opd no e
    exact ⟨a, rfl, ⟨vs, ex_l vis_le hs⟩, q _ H1 x1 (it_lst hs (r.mono vis_le))⟩
theorem den_it (h : Den K te f) : DenI K (iTup K te) (iT f) := by
  intro base O0 O σ H env ds S e R q
  unfold iT at e
  cases k1 : f env with
  | none => simp [k1] at e
  | some x =>
    simp only [k1, Option.bind_some] at e
    refine h base O0 O σ H env x S k1 _ fun v H1 x1 o1 => ?_
    unfold asT at e
    split at e
    · cases e
      rcases o1 with o1 | ⟨_, _, _, _, _, _, z⟩ | ⟨_, z, _⟩
      · cases o1 with
        | tup hs r => exact ⟨_, rfl, ⟨_, ex_t vis_le hs⟩, q _ H1 x1 (it_tup hs r)⟩
      · cases z
      · cases z
    · cases e
/-- range(n) -/
def rgD (lo : Int) (n : Nat) : List PyData := (List.range n).map fun (i : Nat) => PyData.int (lo + (i : Int))
theorem it_rg {Bs Bi : Hp} {lo : Int} {n : Nat} : ItOk K Bs Bi (Itr lo n) (rgD lo n) := fun O2 H2 al e1 e2 => ⟨fun i d hd => by
    unfold rgD at hd
    rw [List.getElem?_map] at hd
    cases k2 : (List.range n)[i]? with
    | none => rw [k2] at hd; cases hd
    | some j =>
      rw [k2] at hd
      cases hd
      obtain ⟨hi1, hi2⟩ := List.getElem?_eq_some_iff.mp k2
      rw [List.length_range] at hi1
      rw [List.getElem_range] at hi2
      subst hi2
      refine ⟨hi1, fun x H3 y => ?_⟩
      obtain ⟨rfl, rfl⟩ := y
      exact ⟨Ex.refl _, .int _⟩, fun i hi => by
    unfold rgD at hi
    rw [List.length_map, List.length_range] at hi
    exact hi⟩
def iR1 (f : Env → Option (List PyData)) : Env → Option (List PyData) := fun env => (f env).bind fun
  | [.int n] => if -100000 ≤ n ∧ n ≤ 100000 then some (rgD 0 n.toNat) else none
  | _ => none
theorem den_ir1 (h : DenA K tr fr) : DenI K (iRng1 tr) (iR1 fr) := by
  intro base O0 O σ H env ds S e R q
  unfold iR1 at e
  cases k1 : fr env with
  | none => simp [k1] at e
  | some xs =>
    simp only [k1, Option.bind_some] at e
    split at e
    · split at e
      · cases e
        rename_i n hn
        refine h base O0 O σ H env _ S k1 _ fun vs H1 x1 r1 => ?_
        cases r1 with
        | cons o t =>
          cases t
          rw [o.int]
          exact ⟨n, rfl, by omega, by omega, q _ H1 x1 it_rg⟩
      · cases e
    · cases e
def iR2 (f : Env → Option (List PyData)) : Env → Option (List PyData) := fun env => (f env).bind fun
  | [.int m, .int n] => if -100000 ≤ n ∧ n ≤ 100000 ∧ -100000 ≤ m ∧ m ≤ 100000 then some (rgD m (n - m).toNat) else none
  | _ => none
theorem den_ir2 (h : DenA K tr fr) : DenI K (iRng2 tr) (iR2 fr) := by
  intro base O0 O σ H env ds S e R q
  unfold iR2 at e
  cases k1 : fr env with
  | none => simp [k1] at e
  | some xs =>
    simp only [k1, Option.bind_some] at e
    split at e
    · split at e
      · cases e
        rename_i m n hn
        refine h base O0 O σ H env _ S k1 _ fun vs H1 x1 r1 => ?_
        cases r1 with
        | cons o t =>
          cases t with
          | cons o2 t =>
            cases t
            rw [o.int, o2.int]
            exact ⟨m, n, rfl, ⟨by omega, by omega, by omega, by omega⟩, q _ H1 x1 it_rg⟩
      · cases e
    · cases e
/-- a text, sign by sign -/
def asSigns : PyData → Option (List PyData)
  | .str z => some (z.cps.toList.map fun c => .str ⟨#[c]⟩)
  | _ => none
def iS (f : Env → Option PyData) : Env → Option (List PyData) := fun env => (f env).bind asSigns
theorem den_is (h : Den K te f) : DenI K (iStr te) (iS f) := by
  intro base O0 O σ H env ds S e R q
  unfold iS at e
  cases k1 : f env with
  | none => simp [k1] at e
  | some x =>
    simp only [k1, Option.bind_some] at e
    refine h base O0 O σ H env x S k1 _ fun v H1 x1 o1 => ?_
    unfold asSigns at e
    split at e
    · cases e
      rename_i z
      refine ⟨z, o1.str, q _ H1 x1 fun O2 H2 al e1 e2 => ⟨fun i d hd => ?_, fun i hi => ?_⟩⟩
      · rw [List.getElem?_map] at hd
        cases k2 : z.cps.toList[i]? with
        | none => rw [k2] at hd; cases hd
        | some c =>
          rw [k2] at hd
          cases hd
          rw [Array.getElem?_toList] at k2
          refine ⟨(Array.getElem?_eq_some_iff.mp k2).1, fun x H3 y => ?_⟩
          obtain ⟨rfl, c2, hc, rfl⟩ := y
          rw [k2] at hc
          cases hc
          exact ⟨Ex.refl _, .str _⟩
      · rw [List.length_map, Array.length_toList] at hi
        exact hi
    · cases e
/-- reversed(xs) -/
def a1 (g : PyData → Option (List PyData)) (f : Env → Option (List PyData)) : Env → Option (List PyData) := fun env => (f env).bind fun
  | [d] => g d
  | _ => none
def iRv (f : Env → Option (List PyData)) : Env → Option (List PyData) := fun env => (a1 asLS f env).map List.reverse
theorem den_irv (h : DenAP K tr fr) : DenI K (iRev K tr) (iRv fr) := by
  intro base O0 O σ H env ds S e R q
  unfold iRv a1 at e
  cases k1 : fr env with
  | none => simp [k1] at e
  | some xs =>
    simp only [k1, Option.bind_some] at e
    split at e
    · rename_i d
      cases k2 : asLS d with
      | none => rw [k2] at e; cases e
      | some es =>
        rw [k2] at e
        cases e
        refine h base O0 O σ H env _ S k1 _ fun vs H1 x1 r1 => ?_
        cases r1 with
        | cons o t =>
          cases t
          have no : Opd K (fun _ => false) (vis O H1) _ d := .inl (o.mono vis_no)
          obtain ⟨a, vs, rfl, hs, r⟩ := asLS_opd no k2
          have r' : RpAll K (vis O H1) vs es := r.mono vis_le
          refine ⟨a, vs, rfl, ex_l vis_le hs, q _ H1 x1 fun O2 H2 al e1 e2 => ⟨fun i d hd => ?_, fun i hi => ?_⟩⟩
          · have hi := (List.getElem?_eq_some_iff.mp hd).1
            rw [List.length_reverse] at hi
            rw [List.getElem?_reverse hi] at hd
            obtain ⟨v, hv, rv⟩ := r'.get hd
            rw [← r'.length] at hv hi
            refine ⟨⟨hi, vs, v, ex_l e1 hs, hv⟩, fun x H3 y => ?_⟩
            obtain ⟨rfl, y⟩ := y
            have z := y vs (ex_l e1 hs)
            rw [hv] at z
            cases z
            exact ⟨Ex.refl _, rv.mono e2⟩
          · rw [List.length_reverse, ← r'.length] at hi
            exact hi
    · cases e
/-- enumerate(xs) -/
def numD : Nat → List PyData → List PyData
  | _, [] => []
  | n, d :: ds => .tuple [.int (n : Int), d] :: numD (n + 1) ds
theorem numD_at : ∀ (ds : List PyData) (n i : Nat), (numD n ds)[i]? = (ds[i]?).map fun d => .tuple [.int ((n + i : Nat) : Int), d]
  | [], n, i => by simp [numD]
  | d :: ds, n, 0 => by simp [numD]
  | d :: ds, n, i + 1 => by
    show (numD (n + 1) ds)[i]? = _
    rw [numD_at ds (n + 1) i, List.getElem?_cons_succ]
    have : n + 1 + i = n + (i + 1) := by omega
    rw [this]
theorem numD_len : ∀ (ds : List PyData) (n : Nat), (numD n ds).length = ds.length
  | [], n => rfl
  | d :: ds, n => congrArg Nat.succ (numD_len ds (n + 1))
def iEn (f : Env → Option (List PyData)) : Env → Option (List PyData) := fun env => (a1 asLS f env).map (numD 0)
theorem new_tup {O2 : Hid} {H2 : Hp} {T : Addr} {vs : List V} {ds : List PyData} (al : ∀ a, O2 a = true → H2 a ≠ none) (hT : H2 T = none) (r : RpAll K (vis O2 H2) vs ds) :
    Ex H2 (upd H2 T (.tup vs)) ∧ Rp K (vis O2 (upd H2 T (.tup vs))) (.ref T) (.tuple ds) := by
  have op : O2 T = false := by
    cases q : O2 T with
    | false => rfl
    | true => exact absurd hT (al T q)
  exact ⟨Ex.new hT, .tup (SqT.of (vis_at op upd_same)) (r.mono (vis_mono (Ex.new hT)))⟩
theorem den_ien (h : DenAP K tr fr) : DenI K (iEnum K tr) (iEn fr) := by
  intro base O0 O σ H env ds S e R q
  unfold iEn a1 at e
  cases k1 : fr env with
  | none => simp [k1] at e
  | some xs =>
    simp only [k1, Option.bind_some] at e
    split at e
    · rename_i d
      cases k2 : asLS d with
      | none => rw [k2] at e; cases e
      | some es =>
        rw [k2] at e
        cases e
        refine h base O0 O σ H env _ S k1 _ fun vs H1 x1 r1 => ?_
        cases r1 with
        | cons o t =>
          cases t
          have no : Opd K (fun _ => false) (vis O H1) _ d := .inl (o.mono vis_no)
          obtain ⟨a, vs, rfl, hs, r⟩ := asLS_opd no k2
          have r' : RpAll K (vis O H1) vs es := r.mono vis_le
          refine ⟨a, vs, rfl, ex_l vis_le hs, q _ H1 x1 fun O2 H2 al e1 e2 => ⟨fun i d hd => ?_, fun i hi => ?_⟩⟩
          · rw [numD_at] at hd
            cases k3 : es[i]? with
            | none => rw [k3] at hd; cases hd
            | some d2 =>
              rw [k3] at hd
              cases hd
              obtain ⟨v, hv, rv⟩ := r'.get k3
              refine ⟨⟨vs, v, ex_l e1 hs, hv⟩, fun x H3 y => ?_⟩
              obtain ⟨T, x2, rfl, hT, rfl, y⟩ := y
              have z := y vs (ex_l e1 hs)
              rw [hv] at z
              cases z
              rw [Nat.zero_add]
              exact new_tup al hT (.cons (.int _) (.cons (rv.mono e2) .nil))
          · rw [numD_len, ← r'.length] at hi
            exact ⟨vs, ex_l e1 hs, hi⟩
    · cases e
/-- zip(xs, ys) -/
def zipD : List PyData → List PyData → List PyData
  | x :: xs, y :: ys => .tuple [x, y] :: zipD xs ys
  | _, _ => []
theorem zipD_at : ∀ (xs ys : List PyData) (i : Nat) (d : PyData), (zipD xs ys)[i]? = some d → ∃ x y, xs[i]? = some x ∧ ys[i]? = some y ∧ d = .tuple [x, y]
  | [], ys, i, d, h => by simp [zipD] at h
  | x :: xs, [], i, d, h => by simp [zipD] at h
  | x :: xs, y :: ys, 0, d, h => by
    simp [zipD] at h
    exact ⟨x, y, rfl, rfl, h.symm⟩
  | x :: xs, y :: ys, i + 1, d, h => zipD_at xs ys i d h
theorem zipD_len : ∀ (xs ys : List PyData), (zipD xs ys).length = min xs.length ys.length
  | [], ys => by simp [zipD]
  | x :: xs, [] => by simp [zipD]
  | x :: xs, y :: ys => by
    show (zipD xs ys).length + 1 = _
    rw [zipD_len xs ys, List.length_cons, List.length_cons]
    omega
def iZp (f : Env → Option (List PyData)) : Env → Option (List PyData) := fun env => (f env).bind fun
  | [d, e] => (asLS d).bind fun xs => (asLS e).map fun ys => zipD xs ys
  | _ => none
theorem den_izp (h : DenAP K tr fr) : DenI K (iZip K tr) (iZp fr) := by
  intro base O0 O σ H env ds S e R q
  unfold iZp at e
  cases k1 : fr env with
  | none => simp [k1] at e
  | some xs =>
    simp only [k1, Option.bind_some] at e
    split at e
    · rename_i d1 d2
      cases k2 : asLS d1 with
      | none => simp [k2] at e
      | some es =>
        cases k3 : asLS d2 with
        | none => simp [k2, k3] at e
        | some fs =>
          simp only [k2, k3, Option.bind_some, Option.map_some] at e
          cases e
          refine h base O0 O σ H env _ S k1 _ fun vs H1 x1 r1 => ?_
          cases r1 with
          | cons o t =>
            cases t with
            | cons o2 t =>
              cases t
              have no : Opd K (fun _ => false) (vis O H1) _ d1 := .inl (o.mono vis_no)
              obtain ⟨a, vs, rfl, hs, r⟩ := asLS_opd no k2
              have no2 : Opd K (fun _ => false) (vis O H1) _ d2 := .inl (o2.mono vis_no)
              obtain ⟨b, ws, rfl, hs2, r2⟩ := asLS_opd no2 k3
              have r' : RpAll K (vis O H1) vs es := r.mono vis_le
              have r2' : RpAll K (vis O H1) ws fs := r2.mono vis_le
              refine ⟨a, b, vs, ws, rfl, ex_l vis_le hs, ex_l vis_le hs2, q _ H1 x1 fun O2 H2 al e1 e2 => ⟨fun i d hd => ?_, fun i hi => ?_⟩⟩
              · obtain ⟨x, y, hx, hy, rfl⟩ := zipD_at es fs i d hd
                obtain ⟨v, hv, rv⟩ := r'.get hx
                obtain ⟨w, hw, rw_⟩ := r2'.get hy
                refine ⟨⟨vs, ws, v, w, ex_l e1 hs, ex_l e1 hs2, hv, hw⟩, fun x H3 yy => ?_⟩
                obtain ⟨T, x2, y2, rfl, hT, rfl, y3, y4⟩ := yy
                have z := y3 vs (ex_l e1 hs)
                rw [hv] at z
                cases z
                have z2 := y4 ws (ex_l e1 hs2)
                rw [hw] at z2
                cases z2
                exact new_tup al hT (.cons (rv.mono e2) (.cons (rw_.mono e2) .nil))
              · rw [zipD_len] at hi
                exact ⟨vs, ws, ex_l e1 hs, ex_l e1 hs2, by rw [r'.length, r2'.length]; omega⟩
    · cases e

/-! ### targets -/
/-- a target: it sets slots of S alone -/
def DenG (K : PySem.W.Frag) (S : List Nat) (g : TG) (G : PyData → Env → Option Env) : Prop := ∀ base O0 O σ H env v d env', Sat K base O0 O σ H env → Rp K (vis O H) v d → G d env = some env' → ∀ Q : L2.St → Hp → Prop, (∀ σ', Sat K base O0 O σ' H env' → σ'.length = σ.length → (∀ i, i ∉ S → σ'[i]? = σ[i]?) → Q σ' H) → g v σ H Q
def DenGs (K : PySem.W.Frag) (S : List Nat) (g : TGs) (G : List PyData → Env → Option Env) : Prop := ∀ base O0 O σ H env vs ds env', Sat K base O0 O σ H env → RpAll K (vis O H) vs ds → G ds env = some env' → ∀ Q : L2.St → Hp → Prop, (∀ σ', Sat K base O0 O σ' H env' → σ'.length = σ.length → (∀ i, i ∉ S → σ'[i]? = σ[i]?) → Q σ' H) → g vs σ H Q
def tgN (i : Nat) : PyData → Env → Option Env := fun d env => some (env.set i (.sh d))
def tgNil : List PyData → Env → Option Env
  | [], env => some env
  | _ :: _, _ => none
def tgCons (g : PyData → Env → Option Env) (gs : List PyData → Env → Option Env) : List PyData → Env → Option Env
  | d :: ds, env => (g d env).bind (gs ds)
  | [], _ => none
def tgT (n : Nat) (gs : List PyData → Env → Option Env) : PyData → Env → Option Env := fun d env => match d with
  | .tuple ds => if ds.length = n then gs ds env else none
  | _ => none
theorem den_gn {i : Nat} {S : List Nat} (hi : i ∈ S) : DenG K S (gName i) (tgN i) := by
  intro base O0 O σ H env v d env' s r e Q q
  cases e
  exact q _ (s.set r) (List.length_set ..) fun j hj => List.getElem?_set_ne (fun (z : i = j) => hj (z ▸ hi))
theorem den_gnil {S : List Nat} : DenGs K S gNil tgNil := by
  intro base O0 O σ H env vs ds env' s r e Q q
  unfold tgNil at e
  split at e
  · cases e
    cases r
    exact ⟨rfl, q σ s rfl fun _ _ => rfl⟩
  · cases e
theorem den_gcons {S : List Nat} {g : TG} {gs : TGs} {G : PyData → Env → Option Env} {Gs : List PyData → Env → Option Env} (h : DenG K S g G) (hs : DenGs K S gs Gs) : DenGs K S (gCons g gs) (tgCons G Gs) := by
  intro base O0 O σ H env vs ds env' s r e Q q
  unfold tgCons at e
  split at e
  · rename_i d ds
    cases k : G d env with
    | none => simp [k] at e
    | some e1 =>
      simp only [k, Option.bind_some] at e
      cases r with
      | cons r t =>
        refine ⟨_, _, rfl, h base O0 O σ H env _ d e1 s r k _ fun σ1 s1 l1 o1 => ?_⟩
        exact hs base O0 O σ1 H e1 _ ds env' s1 t e Q fun σ2 s2 l2 o2 => q σ2 s2 (l2.trans l1) fun j hj => (o2 j hj).trans (o1 j hj)
  · cases e
theorem den_gtup {S : List Nat} {n : Nat} {gs : TGs} {Gs : List PyData → Env → Option Env} (hs : DenGs K S gs Gs) : DenG K S (gTup K n gs) (tgT n Gs) := by
  intro base O0 O σ H env v d env' s r e Q q
  unfold tgT at e
  split at e
  · split at e
    · cases r with
      | tup h ra => exact ⟨_, _, rfl, ex_t vis_le h, by rw [ra.length]; assumption, hs base O0 O σ H env _ _ env' s ra e Q q⟩
    · cases e
  · cases e

/-! ### comprehensions -/
def wipeE (env : Env) : List Nat → Env
  | [] => env
  | v :: vs => (wipeE env vs).set v .un
def lcGo (G : PyData → Env → Option Env) (t : Env → Option Bool) (f : Env → Option PyData) (env : Env) : List PyData → Option (List PyData)
  | [] => some []
  | x :: xs => (G x env).bind fun e1 => (t e1).bind fun b => if b then (f e1).bind fun d => (lcGo G t f env xs).map (d :: ·) else lcGo G t f env xs
def nLc (fi : Env → Option (List PyData)) (G : PyData → Env → Option Env) (t : Env → Option Bool) (f : Env → Option PyData) (vs : List Nat) : Env → Option (List PyData) := fun env => (fi env).bind fun xs => if xs.length ≤ 100000 then lcGo G t f (wipeE env vs) xs else none
theorem Sat.wipe {base : Hp} {O0 O : Hid} {σ : L2.St} {H : Hp} {env : Env} (S : Sat K base O0 O σ H env) : ∀ vs : List Nat, Sat K base O0 O (wipe σ vs) H (wipeE env vs)
  | [] => S
  | v :: vs => (S.wipe vs).un v
theorem wipe_in {σ : L2.St} {i : Nat} (hi : i < σ.length) : ∀ {vs : List Nat}, i ∈ vs → (wipe σ vs)[i]? = some none
  | v :: vs, h => by
    show ((wipe σ vs).set v none)[i]? = _
    by_cases e : v = i
    · subst e
      rw [List.getElem?_set_self (by rw [wipe_length]; exact hi)]
    · rw [List.getElem?_set_ne e]
      rcases List.mem_cons.mp h with h | h
      · exact absurd h.symm e
      · exact wipe_in hi h
theorem wipe_same {σ σ2 : L2.St} {vs : List Nat} (hl : σ2.length = (wipe σ vs).length) (h : ∀ i, i ∉ vs → σ2[i]? = (wipe σ vs)[i]?) : wipe σ2 vs = wipe σ vs := by
  have hl' : σ2.length = σ.length := by rw [hl, wipe_length]
  apply List.ext_getElem?
  intro i
  by_cases m : i ∈ vs
  · by_cases hi : i < σ.length
    · rw [wipe_in hi m, wipe_in (by omega) m]
    · rw [List.getElem?_eq_none (by rw [wipe_length]; omega), List.getElem?_eq_none (by rw [wipe_length]; omega)]
  · rw [wipe_out m, h i m]
/-- a new thing at D may change: it is hidden besides -/
theorem den_lc {wi : TI} {g : TG} {tt : TT} {fi : Env → Option (List PyData)} {G : PyData → Env → Option Env} {t : Env → Option Bool} {vs : List Nat}
    (hi : DenIO K wi fi) (hg : DenG K vs g G) (ht : DenT K tt t) (he : DenP K te f) : DenN K (tLc wi g tt te vs) (nLc fi G t f vs) := by
  intro base O0 O σ H env ds S e Q q
  unfold nLc at e
  cases k1 : fi env with
  | none => simp [k1] at e
  | some xs =>
    simp only [k1, Option.bind_some] at e
    split at e
    case isFalse => cases e
    rename_i hz
    refine hi base O0 O σ H env xs S k1 _ fun J H1 x1 it D hD => ?_
    have S1 := S.mono x1
    have bD : base D = none := S1.ex.free hD
    refine ⟨fun i m H' => ∃ acc done rest, Ex H1 H' ∧ H' D = some (.lst acc) ∧ RpAll K (vis (hid O D) H') acc done ∧ lcGo G t f (wipeE env vs) (xs.drop i) = some rest ∧ ds = done ++ rest ∧ m = xs.length - i ∧ acc.length ≤ i ∧ i ≤ xs.length, ⟨_, [], [], ds, Ex.new hD, upd_same, .nil, e, rfl, rfl, Nat.le_refl _, Nat.zero_le _⟩, fun i m H' hw => ?_⟩
    obtain ⟨acc, done, rest, e1, hacc, ra, eq, hds, rfl, hai, hix⟩ := hw
    have alD : ∀ a, hid O D a = true → H' a ≠ none := fun a ha z => by
      unfold hid at ha
      by_cases qa : O a = true
      · exact S1.all a qa (e1.free z)
      · have : a = D := by simpa [qa] using ha
        rw [this, hacc] at z
        cases z
    have S2 : Sat K base O0 (hid O D) (wipe σ vs) H' (wipeE env vs) := (S1.wipe vs).hide hD e1 (by rw [hacc]; exact fun z => nomatch z)
    have itH := it (hid O D) H' alD e1 (vis_hid hD e1)
    by_cases hlt : i < xs.length
    · refine .inr ?_
      have hx : xs[i]? = some xs[i] := List.getElem?_eq_getElem hlt
      obtain ⟨go, yl⟩ := itH.1 i _ hx
      rw [List.drop_eq_getElem_cons hlt] at eq
      unfold lcGo at eq
      cases kg : G xs[i] (wipeE env vs) with
      | none => simp [kg] at eq
      | some e2 =>
        simp only [kg, Option.bind_some] at eq
        cases kt : t e2 with
        | none => simp [kt] at eq
        | some b =>
          simp only [kt, Option.bind_some] at eq
          refine ⟨go, fun H2 => ∃ acc done rest, Ex H1 H2 ∧ H2 D = some (.lst acc) ∧ RpAll K (vis (hid O D) H2) acc done ∧ lcGo G t f (wipeE env vs) (xs.drop (i + 1)) = some rest ∧ ds = done ++ rest ∧ acc.length ≤ i + 1, fun H2 h => ?_, fun x H2 y => ?_⟩
          · obtain ⟨acc2, done2, rest2, a1, a2, a3, a4, a5, a6⟩ := h
            exact ⟨xs.length - (i + 1), by omega, acc2, done2, rest2, a1, a2, a3, a4, a5, rfl, a6, by omega⟩
          · obtain ⟨xe, rx⟩ := yl x H2 y
            refine hg base O0 (hid O D) (wipe σ vs) H2 (wipeE env vs) x xs[i] e2 (S2.mono xe) rx kg _ fun σ2 s2 l2 o2 => ⟨wipe_same l2 o2, ?_⟩
            refine ht base O0 (hid O D) σ2 H2 e2 b s2 kt _ fun H3 x3 => ?_
            have hD3 : H3 D = some (.lst acc) := x3 _ _ (xe _ _ hacc)
            cases b with
            | true =>
              show te σ2 H3 _
              rw [if_pos rfl] at eq
              cases kf : f e2 with
              | none => simp [kf] at eq
              | some d =>
                simp only [kf, Option.bind_some] at eq
                cases kr : lcGo G t f (wipeE env vs) (xs.drop (i + 1)) with
                | none => rw [kr] at eq; cases eq
                | some rest2 =>
                  rw [kr] at eq
                  cases eq
                  refine he base O0 (hid O D) σ2 H3 e2 d (s2.mono x3) kf _ fun v H4 x4 rv => ⟨acc, x4 _ _ hD3, ?_, acc ++ [v], done ++ [d], rest2, ?_, upd_same, ?_, rfl, by rw [hds, List.append_assoc]; rfl, by rw [List.length_append, List.length_singleton]; omega⟩
                  · have := big 100000 (Nat.le_refl _)
                    omega
                  · intro a o ha
                    rw [upd_ne (ne_of_none ha hD)]
                    exact x4 _ _ (x3 _ _ (xe _ _ (e1 _ _ ha)))
                  · rw [vis_upd (by unfold hid; simp)]
                    exact (ra.mono (vis_mono ((xe.trans x3).trans x4))).append (.cons rv .nil)
            | false =>
              show ∃ acc done rest, _
              rw [if_neg Bool.false_ne_true] at eq
              exact ⟨acc, done, rest, (e1.trans xe).trans x3, hD3, ra.mono (vis_mono (xe.trans x3)), eq, hds, by omega⟩
    · refine .inl ⟨itH.2 i (by omega), ?_⟩
      rw [List.drop_eq_nil_of_le (by omega)] at eq
      cases eq
      rw [List.append_nil] at hds
      subst hds
      exact q D acc H' (x1.free hD) (x1.trans e1) hacc ra
end
end PL
namespace PL
open PySem L2 PySem.Spec PyProof.Rows

inductive Out where
  | nx (e : Env) | rt (d : PyData) | br (e : Env) | ct (e : Env) | rtn (ds : List PyData)
  | rtm (d : PyData) (e : Env) | rto (s : ObS) | rts (pre : List PyData) (s : ObS) (post : List PyData)
def hidB (O : Hid) (fp : List Addr) : Hid := fun a => O a || decide (a ∈ fp)
/-- what must hold behind -/
def Post (K : PySem.W.Frag) (base : Hp) (O0 : Hid) (B : Hp) (D : Ends) : Out → Prop
  | .nx e => ∀ O σ H, Ex B (vis O H) → Sat K base O0 O σ H e → D.nx σ H
  | .br e => ∀ O σ H, Ex B (vis O H) → Sat K base O0 O σ H e → D.bk σ H
  | .ct e => ∀ O σ H, Ex B (vis O H) → Sat K base O0 O σ H e → D.ct σ H
  | .rt d => ∀ v H, Ex base H → Ex B (vis O0 H) → Rp K (vis O0 H) v d → D.rt v H
  | .rtn ds => ∀ p vs H, base p = none → Ex base H → Ex B (vis O0 H) → H p = some (.lst vs) → RpAll K (vis (hid O0 p) H) vs ds → D.rt (.ref p) H
  | .rtm d e => ∀ v O σ H, Ex B (vis O H) → Sat K base O0 O σ H e → Rp K (vis O H) v d → D.rt v H
  | .rto s => ∀ v fp H, (∀ a ∈ fp, base a = none) → Ex base H → Ex B (vis O0 H) → ObR K v fp H (vis (hidB O0 fp) H) s → D.rt v H
  | .rts pre s post => ∀ t us v ws fp H, (∀ a ∈ fp, base a = none) → base t = none → Ex base H → Ex B (vis O0 H) → H t = some (.tup (us ++ v :: ws)) → RpAll K (vis (hidB O0 fp) H) us pre → RpAll K (vis (hidB O0 fp) H) ws post → ObR K v fp H (vis (hidB O0 fp) H) s → D.rt (.ref t) H
def DenS (K : PySem.W.Frag) (ts : TS) (F : Env → Option Out) : Prop := ∀ base O0 O σ H env o (D : Ends), Sat K base O0 O σ H env → F env = some o → Post K base O0 (vis O H) D o → ts D σ H
section
variable {K : PySem.W.Frag} {base : Hp} {O0 O : Hid} {σ : L2.St} {H : Hp} {env : Env} {D : Ends}
theorem Post.mono {B B' : Hp} (e : Ex B B') {o : Out} (h : Post K base O0 B D o) : Post K base O0 B' D o := by
  cases o with
  | nx en => exact fun O σ H x S => h O σ H (e.trans x) S
  | br en => exact fun O σ H x S => h O σ H (e.trans x) S
  | ct en => exact fun O σ H x S => h O σ H (e.trans x) S
  | rt d => exact fun v H x y r => h v H x (e.trans y) r
  | rtn ds => exact fun p vs H b x y g r => h p vs H b x (e.trans y) g r
  | rtm d en => exact fun v O σ H x S r => h v O σ H (e.trans x) S r
  | rto s => exact fun v fp H b x y r => h v fp H b x (e.trans y) r
  | rts a s c => exact fun t us v ws fp H b b2 x y g r1 r2 r => h t us v ws fp H b b2 x (e.trans y) g r1 r2 r
/-- what is hidden now, but was not at first, is new -/
theorem Sat.out (S : Sat K base O0 O σ H env) : Ex (vis O H) (vis O0 H) := fun a o h => by
  unfold vis at *
  by_cases q : O a = true
  · rw [if_pos q] at h
    cases h
  · rw [if_neg q] at h
    rw [if_neg (fun z => q (S.sub a z))]
    exact h
variable {te ta tb tx : TE} {tr : TA} {f fa fb : Env → Option PyData} {fr fn : Env → Option (List PyData)} {ts tu tw : TS} {F F2 F3 : Env → Option Out} {tt : TT} {t : Env → Option Bool}
def bindO (o : Out) (k : Env → Option Out) : Option Out := match o with
  | .nx e => k e
  | o => some o
def sSeq (F F2 : Env → Option Out) : Env → Option Out := fun env => (F env).bind fun o => bindO o F2
theorem dens_seq (h1 : DenS K ts F) (h2 : DenS K tu F2) : DenS K (tSeq ts tu) (sSeq F F2) := by
  intro base O0 O σ H env o D S e P
  unfold sSeq at e
  cases k : F env with
  | none => simp [k] at e
  | some o1 =>
    simp only [k, Option.bind_some] at e
    refine h1 base O0 O σ H env o1 _ S k ?_
    cases o1 with
    | nx en => exact fun O2 σ2 H2 x S2 => h2 base O0 O2 σ2 H2 en o D S2 e (P.mono x)
    | br en => cases e; exact P
    | ct en => cases e; exact P
    | rt d => cases e; exact P
    | rtn ds => cases e; exact P
    | rtm d en => cases e; exact P
    | rto s => cases e; exact P
    | rts a s c => cases e; exact P
def sNext : Env → Option Out := fun env => some (.nx env)
theorem dens_next : DenS K tNext sNext := by
  intro base O0 O σ H env o D S e P
  cases e
  exact P O σ H (Ex.refl _) S
def sBreak : Env → Option Out := fun env => some (.br env)
theorem dens_break : DenS K tBreak sBreak := by
  intro base O0 O σ H env o D S e P
  cases e
  exact P O σ H (Ex.refl _) S
def sCont : Env → Option Out := fun env => some (.ct env)
theorem dens_cont : DenS K tCont sCont := by
  intro base O0 O σ H env o D S e P
  cases e
  exact P O σ H (Ex.refl _) S
/-- x = e -/
def sAsg (f : Env → Option PyData) (G : PyData → Env → Option Env) : Env → Option Out := fun env => (f env).bind fun d => (G d env).map Out.nx
theorem dens_asg {S0 : List Nat} {g : TG} {G : PyData → Env → Option Env} (h : DenP K te f) (hg : DenG K S0 g G) : DenS K (tAsg te g) (sAsg f G) := by
  intro base O0 O σ H env o D S e P
  unfold sAsg at e
  cases k : f env with
  | none => simp [k] at e
  | some d =>
    cases k2 : G d env with
    | none => simp [k, k2] at e
    | some en =>
      simp only [k, k2, Option.bind_some, Option.map_some] at e
      cases e
      refine h base O0 O σ H env d S k _ fun v H1 x1 r => ?_
      exact hg base O0 O σ H1 env v d en (S.mono x1) r k2 _ fun σ2 s2 _ _ => P O σ2 H1 (vis_mono x1) s2
/-- x = a new list, which is to change -/
def sOwn (f : Env → Option (List PyData)) (i : Nat) : Env → Option Out := fun env => (f env).map fun ds => .nx (env.set i (.own ds))
theorem dens_own {i : Nat} (h : DenN K te fn) : DenS K (tAsg te (gName i)) (sOwn fn i) := by
  intro base O0 O σ H env o D S e P
  unfold sOwn at e
  cases k : fn env with
  | none => simp [k] at e
  | some ds =>
    simp only [k, Option.map_some] at e
    cases e
    exact h base O0 O σ H env ds S k _ fun p vs H1 hp x1 h1 r => P (hid O p) _ H1 (vis_hid hp x1) (S.setOwn hp x1 h1 r)
def sRet (f : Env → Option PyData) : Env → Option Out := fun env => (f env).map Out.rt
theorem dens_ret (h : DenP K te f) : DenS K (tRet te) (sRet f) := by
  intro base O0 O σ H env o D S e P
  unfold sRet at e
  cases k : f env with
  | none => simp [k] at e
  | some d =>
    simp only [k, Option.map_some] at e
    cases e
    refine h base O0 O σ H env d S k _ fun v H1 x1 r => ?_
    have S1 := S.mono x1
    exact P v H1 S1.ex ((vis_mono x1).trans S1.out) (r.mono S1.out)
/-- return x, x a list that was to change: all of its frame's are let go -/
def sRetO (i : Nat) : Env → Option Out := fun env => match env[i]? with
  | some (.own ds) => some (.rtn ds)
  | _ => none
theorem dens_reto {i : Nat} : DenS K (tRet (tVar i)) (sRetO i) := by
  intro base O0 O σ H env o D S e P
  unfold sRetO at e
  split at e
  · rename_i ds hi
    cases e
    obtain ⟨x, fp, hx, a, vs, rfl, _, oa, ba, h1, r⟩ := S.at_ hi
    have n0 : O0 a = false := by
      cases q : O0 a with
      | false => rfl
      | true => exact absurd ba (S.b0 a q)
    refine ⟨_, hx, P a vs H ba S.ex S.out h1 (r.mono fun b o hb => ?_)⟩
    have hb2 := S.out b o hb
    have nb : b ≠ a := fun z => by
      subst z
      unfold vis at hb
      rw [if_pos oa] at hb
      cases hb
    unfold vis at hb2 ⊢
    unfold hid
    by_cases q : O0 b = true
    · rw [if_pos q] at hb2
      cases hb2
    · have q' : O0 b = false := by simpa using q
      rw [if_neg q] at hb2
      rw [q']
      simpa [nb] using hb2
  · cases e
def sRetN (f : PL.Env → Option (List PyData)) : PL.Env → Option Out := fun env => (f env).map Out.rtn
theorem dens_retn (h : DenN K te fn) : DenS K (tRet te) (sRetN fn) := by
  intro base O0 O σ H env o D S e P
  unfold sRetN at e
  cases k : fn env with
  | none => simp [k] at e
  | some ds =>
    simp only [k, Option.map_some] at e
    cases e
    refine h base O0 O σ H env ds S k _ fun p vs H1 hp x1 h1 r => ?_
    have S1 := S.mono x1
    have bp : base p = none := S.ex.free hp
    refine P p vs H1 bp S1.ex ((vis_mono x1).trans S1.out) h1 (r.mono fun b o hb => ?_)
    have h2 := vis_le b o hb
    have nb : hid O p b = false := by
      cases z : hid O p b with
      | false => rfl
      | true =>
        unfold vis at hb
        rw [if_pos z] at hb
        cases hb
    refine vis_at ?_ h2
    unfold hid at nb ⊢
    rw [Bool.or_eq_false_iff] at nb ⊢
    refine ⟨?_, nb.2⟩
    cases z : O0 b with
    | false => rfl
    | true => rw [S.sub b z] at nb; cases nb.1
theorem dens_drop (h : DenP K te f) : DenS K (tDrop te) (fun env => (f env).map fun _ => .nx env) := by
  intro base O0 O σ H env o D S e P
  cases k : f env with
  | none => simp [k] at e
  | some d =>
    simp only [k, Option.map_some] at e
    cases e
    exact h base O0 O σ H env d S k _ fun v H1 x1 r => P O σ H1 (vis_mono x1) (S.mono x1)
def sIf (t : Env → Option Bool) (F F2 : Env → Option Out) : Env → Option Out := fun env => (t env).bind fun b => if b then F env else F2 env
theorem dens_if (ht : DenT K tt t) (h1 : DenS K ts F) (h2 : DenS K tu F2) : DenS K (tIfS tt ts tu) (sIf t F F2) := by
  intro base O0 O σ H env o D S e P
  unfold sIf at e
  cases k : t env with
  | none => simp [k] at e
  | some b =>
    simp only [k, Option.bind_some] at e
    refine ht base O0 O σ H env b S k _ fun H1 x1 => ?_
    cases b with
    | true =>
      show ts D σ H1
      exact h1 base O0 O σ H1 env o D (S.mono x1) (by simpa using e) (P.mono (vis_mono x1))
    | false =>
      show tu D σ H1
      exact h2 base O0 O σ H1 env o D (S.mono x1) (by simpa using e) (P.mono (vis_mono x1))
/-- xs.append(e) -/
def sApp (i : Nat) (f : Env → Option PyData) : Env → Option Out := fun env => match env[i]? with
  | some (.own ds) => (f env).bind fun d => if ds.length < 100000 then some (.nx (env.set i (.own (ds ++ [d])))) else none
  | _ => none
theorem dens_app {i : Nat} (h : DenP K te f) : DenS K (tDrop (tBM K "list" rAppend (tVar i) (tCons te tNil))) (sApp i f) := by
  intro base O0 O σ H env o D S e P
  unfold sApp at e
  split at e
  · rename_i ds hi
    cases k : f env with
    | none => simp [k] at e
    | some d =>
      simp only [k, Option.bind_some] at e
      split at e
      case isFalse => cases e
      cases e
      obtain ⟨x, fp, hx, a, vs, rfl, _, oa, ba, h1, r⟩ := S.at_ hi
      refine ⟨_, hx, Or.inl ⟨rfl, vs, SqL.of h1⟩, ?_⟩
      refine h base O0 O σ H env d S k _ fun v H1 x1 rv => ⟨a, vs, v, rfl, rfl, x1 _ _ h1, ?_, ?_⟩
      · rw [r.length]
        have := big 100000 (Nat.le_refl _)
        omega
      · obtain ⟨hv, S2⟩ := (S.mono x1).mut (vs := vs ++ [v]) (es := ds ++ [d]) hi hx ((r.mono (vis_mono x1)).append (.cons rv .nil))
        exact P O σ _ (by rw [hv]; exact vis_mono x1) S2
  · cases e
/-- xs.extend(e), e a list -/
def sExt (i : Nat) (f : Env → Option PyData) : Env → Option Out := fun env => match env[i]? with
  | some (.own ds) => (f env).bind fun d => (asL d).bind fun es => if ds.length + es.length ≤ 100000 then some (.nx (env.set i (.own (ds ++ es)))) else none
  | _ => none
theorem dens_ext {i : Nat} (h : DenP K te f) : DenS K (tDrop (tBM K "list" rExtend (tVar i) (tCons te tNil))) (sExt i f) := by
  intro base O0 O σ H env o D S e P
  unfold sExt at e
  split at e
  · rename_i ds hi
    cases k : f env with
    | none => simp [k] at e
    | some d =>
      simp only [k, Option.bind_some] at e
      cases k2 : asL d with
      | none => simp [k2] at e
      | some es =>
        simp only [k2, Option.bind_some] at e
        split at e
        case isFalse => cases e
        rename_i hz
        cases e
        obtain ⟨x, fp, hx, a, vs, rfl, _, oa, ba, h1, r⟩ := S.at_ hi
        refine ⟨_, hx, Or.inl ⟨rfl, vs, SqL.of h1⟩, ?_⟩
        refine h base O0 O σ H env d S k _ fun v H1 x1 rv => ?_
        obtain ⟨b, ws, rfl, h2, r2⟩ := asL_opd (K := K) (O := fun _ => false) (.inl (rv.mono vis_no)) k2
        refine ⟨a, b, vs, ws, rfl, rfl, x1 _ _ h1, vis_le _ _ h2, ?_, ?_⟩
        · rw [r.length, r2.length]
          exact big _ hz
        · obtain ⟨hv, S2⟩ := (S.mono x1).mut (vs := vs ++ ws) (es := ds ++ es) hi hx ((r.mono (vis_mono x1)).append (r2.mono vis_le))
          exact P O σ _ (by rw [hv]; exact vis_mono x1) S2
  · cases e
/-- a list that was to change stays as it is from here on -/
def frE (i : Nat) (env : Env) : Option Env := match env[i]? with
  | some (.own ds) => some (env.set i (.sh (.list ds)))
  | _ => none
theorem Sat.free {i : Nat} {e2 : PL.Env} (S : Sat K base O0 O σ H env) (h : frE i env = some e2) : ∃ O', Ex (vis O H) (vis O' H) ∧ Sat K base O0 O' σ H e2 := by
  unfold frE at h
  split at h
  · rename_i ds hi
    cases h
    exact S.let_ hi
  · cases h
def sFree (i : Nat) (F : Env → Option Out) : Env → Option Out := fun env => (frE i env).bind F
theorem dens_free {i : Nat} (h : DenS K ts F) : DenS K ts (sFree i F) := by
  intro base O0 O σ H env o D S e P
  unfold sFree at e
  cases k : frE i env with
  | none => simp [k] at e
  | some e2 =>
    simp only [k, Option.bind_some] at e
    obtain ⟨O', hv, S2⟩ := S.free k
    exact h base O0 O' σ H e2 o D S2 e (P.mono hv)
/-! ### for -/
def fGo (G : PyData → Env → Option Env) (F : Env → Option Out) : List PyData → Env → Option Out
  | [], env => some (.nx env)
  | x :: xs, env => (G x env).bind fun e1 => (F e1).bind fun
    | .nx e => fGo G F xs e
    | .ct e => fGo G F xs e
    | .br e => some (.nx e)
    | .rt d => some (.rt d)
    | .rtn ds => some (.rtn ds)
    | .rtm d e => some (.rtm d e)
    | .rto s => some (.rto s)
    | .rts a s c => some (.rts a s c)
def sFor (fi : Env → Option (List PyData)) (G : PyData → Env → Option Env) (F : Env → Option Out) : Env → Option Out := fun env => (fi env).bind fun xs => fGo G F xs env
theorem dens_for {wi : TI} {g : TG} {S0 : List Nat} {fi : Env → Option (List PyData)} {G : PyData → Env → Option Env} (hi : DenI K wi fi) (hg : DenG K S0 g G) (hb : DenS K ts F) : DenS K (tFor wi g ts) (sFor fi G F) := by
  intro base O0 O σ H env o D S e P
  unfold sFor at e
  cases k : fi env with
  | none => simp [k] at e
  | some xs =>
    simp only [k, Option.bind_some] at e
    refine hi base O0 O σ H env xs S k _ fun J H1 x1 it => ?_
    refine ⟨fun i m σ' H' => ∃ O' en, Ex (vis O H1) (vis O' H') ∧ Sat K base O0 O' σ' H' en ∧ fGo G F (xs.drop i) en = some o ∧ m = xs.length - i, ⟨_, O, env, Ex.refl _, S.mono x1, e, rfl⟩, fun i m σ' H' hw => ?_⟩
    obtain ⟨O', en, y1, S1, eq, rfl⟩ := hw
    have itH := it O' H' S1.all (y1.trans vis_le) y1
    have P1 : Post K base O0 (vis O' H') D o := P.mono ((vis_mono x1).trans y1)
    by_cases hlt : i < xs.length
    · refine .inr ?_
      obtain ⟨go, yl⟩ := itH.1 i _ (List.getElem?_eq_getElem hlt)
      rw [List.drop_eq_getElem_cons hlt] at eq
      unfold fGo at eq
      cases kg : G xs[i] en with
      | none => simp [kg] at eq
      | some e2 =>
        simp only [kg, Option.bind_some] at eq
        cases kf : F e2 with
        | none => simp [kf] at eq
        | some o2 =>
          simp only [kf, Option.bind_some] at eq
          refine ⟨go, fun σ2 H2 => ∃ O2 e3, Ex (vis O H1) (vis O2 H2) ∧ Sat K base O0 O2 σ2 H2 e3 ∧ fGo G F (xs.drop (i + 1)) e3 = some o, fun σ2 H2 h => ?_, fun x H2 y => ?_⟩
          · obtain ⟨O2, e3, a1, a2, a3⟩ := h
            exact ⟨xs.length - (i + 1), by omega, O2, e3, a1, a2, a3, rfl⟩
          · obtain ⟨xe, rx⟩ := yl x H2 y
            refine hg base O0 O' σ' H2 en x xs[i] e2 (S1.mono xe) rx kg _ fun σ2 s2 _ _ => ?_
            refine hb base O0 O' σ2 H2 e2 o2 _ s2 kf ?_
            have P2 := P1.mono (vis_mono xe)
            cases o2 with
            | nx e3 => exact fun O2 σ3 H3 z S3 => ⟨O2, e3, (y1.trans (vis_mono xe)).trans z, S3, eq⟩
            | ct e3 => exact fun O2 σ3 H3 z S3 => ⟨O2, e3, (y1.trans (vis_mono xe)).trans z, S3, eq⟩
            | br e3 => cases eq; exact P2
            | rt d => cases eq; exact P2
            | rtn ds => cases eq; exact P2
            | rtm d e3 => cases eq; exact P2
            | rto s => cases eq; exact P2
            | rts a s c => cases eq; exact P2
    · refine .inl ⟨itH.2 i (by omega), ?_⟩
      rw [List.drop_eq_nil_of_le (by omega)] at eq
      cases eq
      exact P1 O' σ' H' (Ex.refl _) S1
end

/-! ### a def's promise: it gives f of its arguments -/
def spD (K : PySem.W.Frag) (n : Nat) (f : List PyData → Option PyData) : Sp := fun vs H Q _ => ∃ (O : Hid) (ds : List PyData) (d : PyData), vs.length = n ∧ (∀ a, O a = true → H a ≠ none) ∧ RpAll K (vis O H) vs ds ∧ f ds = some d ∧ ∀ v H', Ex H H' → Ex (vis O H) (vis O H') → Rp K (vis O H') v d → Q v H'
def fEnv (n : Nat) (ds : List PyData) : Env := ds.map .sh ++ List.replicate (n - ds.length) .un
def outD : Option Out → Option PyData
  | some (.rt d) => some d
  | some (.nx _) => some .none
  | some (.rtn ds) => some (.list ds)
  | _ => none
/-- what a body gives of its arguments; n: how many names there are -/
def fnD (n : Nat) (F : Env → Option Out) : List PyData → Option PyData := fun ds => outD (F (fEnv n ds))
section
variable {K : PySem.W.Frag}
theorem sat_start {O : Hid} {H : Hp} {vs : List V} {ds : List PyData} {N : List Str} (al : ∀ a, O a = true → H a ≠ none) (r : RpAll K (vis O H) vs ds) (hn : vs.length ≤ N.length) : Sat K H O O (L2.start N vs) H (fEnv N.length ds) := by
  have hl := r.length
  refine ⟨fun _ => [], Ex.refl _, fun a h => .inl h, al, fun a h => h, al, ?_, fun i x s h1 h2 => ?_, fun _ _ => rfl, fun _ _ _ _ h _ => nomatch h⟩
  · unfold L2.start fEnv
    rw [List.length_append, List.length_append, List.length_map, List.length_map, List.length_replicate, List.length_replicate, hl]
  · unfold L2.start at h1
    unfold fEnv at h2
    by_cases hi : i < vs.length
    · rw [List.getElem?_append_left (by rw [List.length_map]; exact hi), List.getElem?_map] at h1
      rw [List.getElem?_append_left (by rw [List.length_map, ← hl]; exact hi), List.getElem?_map] at h2
      cases q : ds[i]? with
      | none => rw [q] at h2; cases h2
      | some d =>
        rw [q] at h2
        cases h2
        obtain ⟨v, hv, rv⟩ := r.get q
        rw [hv] at h1
        cases h1
        exact ⟨⟨v, rfl, rv⟩, rfl⟩
    · rw [List.getElem?_append_right (by rw [List.length_map]; omega), List.getElem?_replicate] at h1
      rw [List.getElem?_append_right (by rw [List.length_map, ← hl]; omega), List.getElem?_replicate] at h2
      split at h1
      · cases h1
        split at h2
        · cases h2
          exact ⟨rfl, rfl⟩
        · cases h2
      · cases h1
/-- a def of which a plain function tells all -/
theorem fn_den {P : Program} {w : World} {mg : Str → Option Value} {base : Heap} {x qual : Str} {st : Stmt} {f : Addr} {fd : FuncData} {N ps : List Str} {k : Nat} {F : Env → Option Out} (Fu : Fun K x qual st f fd) (S : FnScope N ps (defScope st)) (hn : ps.length ≤ N.length)
    (hb : ∀ (cdv : Value) (A : Around) (outer : List PySem.Env) (s : Shared) (H : Hp) (E : XK), Room k (A.deeper (envOfC qual (defScope st) s.heap.objs.size f cdv)) →
      ∃ t, PSs (cxOf CX0 P w K mg base N qual (defScope st) f cdv A outer s H E).nox (defBody st) t ∧ DenS K t F) : FnOk P w K mg base CX0 (k + 1) f fd ps (spD K ps.length (fnD N.length F)) := by
  refine Fu.ok S (fun vs H Q E h => ?_) (fun cdv A outer s H vs Q E hr h => ?_)
  · obtain ⟨O, ds, d, hl, _⟩ := h
    exact hl
  · obtain ⟨O, ds, d, hl, al, r, hf, q⟩ := h
    obtain ⟨t, pt, dt⟩ := hb cdv A outer s H E hr
    refine ⟨t, pt, ?_⟩
    unfold fnD at hf
    cases k1 : F (fEnv N.length ds) with
    | none => rw [k1] at hf; cases hf
    | some o =>
      rw [k1] at hf
      refine dt H O O (L2.start N vs) H (fEnv N.length ds) o _ (sat_start al r (by omega)) k1 ?_
      cases o with
      | nx e =>
        cases hf
        exact fun O2 σ2 H2 x S2 => q _ H2 S2.ex (x.trans S2.out) .non
      | br e => cases hf
      | ct e => cases hf
      | rt d =>
        cases hf
        exact fun v H2 x y r2 => q v H2 x y r2
      | rtn ds2 =>
        cases hf
        refine fun p vs2 H2 b x y g r2 => q _ H2 x y (.lst (vis_at ?_ g) (r2.mono hid_le))
        cases z : O p with
        | false => rfl
        | true => exact absurd b (al p z)
      | rtm d e => cases hf
      | rto s => cases hf
      | rts a s c => cases hf
/-- such a def called -/
theorem den_call {n : Nat} {g : List PyData → Option PyData} {E : XK} {tr : TA} {fr : Env → Option (List PyData)} (h : DenAP K tr fr) : DenP K (tCall (spD K n g) [] E tr) (eA (fun ds => if ds.length = n then g ds else none) fr) := by
  intro base O0 O σ H env d S e Q q
  unfold eA at e
  cases k1 : fr env with
  | none => simp [k1] at e
  | some xs =>
    simp only [k1, Option.bind_some] at e
    split at e
    case isFalse => cases e
    rename_i hn
    refine h base O0 O σ H env xs S k1 _ fun vs H1 x1 r => ?_
    show spD K n g (vs ++ []) H1 Q E
    rw [List.append_nil]
    exact ⟨O, xs, d, by rw [r.length]; exact hn, (S.mono x1).all, r, e, fun v H2 x2 _ r2 => q v H2 (x1.trans x2) r2⟩
/-- .. that hands back a new list -/
def spN (K : PySem.W.Frag) (n : Nat) (f : List PyData → Option (List PyData)) : Sp := fun vs H Q _ => ∃ (O : Hid) (ds es : List PyData), vs.length = n ∧ (∀ a, O a = true → H a ≠ none) ∧ RpAll K (vis O H) vs ds ∧ f ds = some es ∧ ∀ p ws H', H p = none → Ex H H' → H' p = some (.lst ws) → RpAll K (vis (hid O p) H') ws es → Q (.ref p) H'
def fnN (n : Nat) (F : PL.Env → Option Out) : List PyData → Option (List PyData) := fun ds => match F (fEnv n ds) with
  | some (.rtn es) => some es
  | _ => none
theorem fnN_fnD {n : Nat} {F : PL.Env → Option Out} {ds es : List PyData} (h : fnN n F ds = some es) : fnD n F ds = some (.list es) := by
  unfold fnN at h
  unfold fnD outD
  split at h
  · rename_i e
    rw [e]
    cases h
    rfl
  · cases h
theorem fn_denN {P : Program} {w : World} {mg : Str → Option Value} {base : Heap} {x qual : Str} {st : Stmt} {f : Addr} {fd : FuncData} {N ps : List Str} {k : Nat} {F : PL.Env → Option Out} (Fu : Fun K x qual st f fd) (S : FnScope N ps (defScope st)) (hn : ps.length ≤ N.length)
    (hb : ∀ (cdv : Value) (A : Around) (outer : List PySem.Env) (s : Shared) (H : Hp) (E : XK), Room k (A.deeper (envOfC qual (defScope st) s.heap.objs.size f cdv)) →
      ∃ t, PSs (cxOf CX0 P w K mg base N qual (defScope st) f cdv A outer s H E).nox (defBody st) t ∧ DenS K t F) : FnOk P w K mg base CX0 (k + 1) f fd ps (spN K ps.length (fnN N.length F)) := by
  refine Fu.ok S (fun vs H Q E h => ?_) (fun cdv A outer s H vs Q E hr h => ?_)
  · obtain ⟨O, ds, d, hl, _⟩ := h
    exact hl
  · obtain ⟨O, ds, es, hl, al, r, hf, q⟩ := h
    obtain ⟨t, pt, dt⟩ := hb cdv A outer s H E hr
    refine ⟨t, pt, ?_⟩
    unfold fnN at hf
    split at hf
    · rename_i es2 k1
      cases hf
      exact dt H O O (L2.start N vs) H (fEnv N.length ds) _ _ (sat_start al r (by omega)) k1 fun p vs2 H2 b x y g r2 => q p vs2 H2 b x g r2
    · cases hf
theorem den_callN {n : Nat} {g : List PyData → Option (List PyData)} {E : XK} {tr : TA} {fr : PL.Env → Option (List PyData)} (h : DenAP K tr fr) : DenN K (tCall (spN K n g) [] E tr) (fun env => (fr env).bind fun ds => if ds.length = n then g ds else none) := by
  intro base O0 O σ H env d S e Q q
  cases k1 : fr env with
  | none => simp [k1] at e
  | some xs =>
    simp only [k1, Option.bind_some] at e
    split at e
    case isFalse => cases e
    rename_i hn
    refine h base O0 O σ H env xs S k1 _ fun vs H1 x1 r => ?_
    show spN K n g (vs ++ []) H1 Q E
    rw [List.append_nil]
    exact ⟨O, xs, d, by rw [r.length]; exact hn, (S.mono x1).all, r, e, fun p ws H2 hp x2 g2 r2 => q p ws H2 (x1.free hp) (x1.trans x2) g2 r2⟩
end
end PL
namespace PL
open PySem L2 PySem.Spec PyProof.Rows

/-! ### a piece of the program and what it gives -/
structure EP (K : PySem.W.Frag) (X : Cx) (e : Expr) (t : TE) (f : Env → Option PyData) : Prop where
  pe : PE X e t
  de : DenP K t f
structure EO (K : PySem.W.Frag) (X : Cx) (e : Expr) (t : TE) (f : Env → Option PyData) : Prop where
  pe : PE X e t
  de : Den K t f
structure EN (K : PySem.W.Frag) (X : Cx) (e : Expr) (t : TE) (f : Env → Option (List PyData)) : Prop where
  pe : PE X e t
  de : DenN K t f
structure ET (K : PySem.W.Frag) (X : Cx) (e : Expr) (t : TT) (f : Env → Option Bool) : Prop where
  pe : PT X e t
  de : DenT K t f
structure EA (K : PySem.W.Frag) (X : Cx) (es : List Expr) (t : TA) (f : Env → Option (List PyData)) : Prop where
  pe : PA X es t
  de : DenA K t f
structure EB (K : PySem.W.Frag) (X : Cx) (es : List Expr) (t : TA) (f : Env → Option (List PyData)) : Prop where
  pe : PA X es t
  de : DenAP K t f
structure EI (K : PySem.W.Frag) (X : Cx) (tg e : Expr) (t : TI) (f : Env → Option (List PyData)) : Prop where
  pe : PI X tg e t
  de : DenI K t f
structure EJ (K : PySem.W.Frag) (X : Cx) (tg e : Expr) (t : TI) (f : Env → Option (List PyData)) : Prop where
  pe : PI X tg e t
  de : DenIO K t f
structure EG (K : PySem.W.Frag) (X : Cx) (S : List Nat) (e : Expr) (g : TG) (G : PyData → Env → Option Env) : Prop where
  pe : PG X e g
  de : DenG K S g G
structure EGs (K : PySem.W.Frag) (X : Cx) (S : List Nat) (e : List Expr) (g : TGs) (G : List PyData → Env → Option Env) : Prop where
  pe : PGs X e g
  de : DenGs K S g G
structure ES (K : PySem.W.Frag) (X : Cx) (st : Stmt) (t : TS) (F : Env → Option Out) : Prop where
  pe : PS X st t
  de : DenS K t F
structure EK (K : PySem.W.Frag) (X : Cx) (st : List Stmt) (t : TS) (F : Env → Option Out) : Prop where
  pe : PSs X st t
  de : DenS K t F
structure EQ (K : PySem.W.Frag) (X : Cx) (e : Option Expr) (t : TO) (f : Env → Option (Option Int)) : Prop where
  pe : PO X e t
  de : DenO K t f
section
variable {K : PySem.W.Frag} {X : Cx} {e a b c : Expr} {te ta tb : TE} {f fa fb : Env → Option PyData} {fn : Env → Option (List PyData)} {pos : Pos}
theorem EP.o (h : EP K X e te f) : EO K X e te f := ⟨h.pe, h.de.o⟩
theorem EN.p (h : EN K X e te fn) : EP K X e te (eL fn) := ⟨h.pe, h.de.p⟩
theorem EN.o (h : EN K X e te fn) : EO K X e te (eL fn) := h.p.o
theorem vP (i : Nat) {x : Str} (hN : X.N[i]? = some x := by rfl) (hv : Vis X.env.scope x := by first | exact Or.inl rfl | exact Or.inr (Or.inl rfl) | exact Or.inr (Or.inr rfl)) (hd : (x == ("__debug__" : Str)) = false := by decide)
    (hcd : (x == ("__classdict__" : Str)) = false := by decide) : EP K X (.Name x pos) (tVar i) (eVar i) := ⟨pe_var hN hv hd hcd, denP_var⟩
theorem vO (i : Nat) {x : Str} (hN : X.N[i]? = some x := by rfl) (hv : Vis X.env.scope x := by first | exact Or.inl rfl | exact Or.inr (Or.inl rfl) | exact Or.inr (Or.inr rfl)) (hd : (x == ("__debug__" : Str)) = false := by decide)
    (hcd : (x == ("__classdict__" : Str)) = false := by decide) : EO K X (.Name x pos) (tVar i) (eVarO i) := ⟨pe_var hN hv hd hcd, den_var⟩
theorem cI {i : Int} {j} : EP K X (.Constant (.int i) j pos) (tC (.int i)) (eC (.int i)) := ⟨pe_int, den_int⟩
theorem cB {i : Bool} {j} : EP K X (.Constant (.bool i) j pos) (tC (.bl i)) (eC (.bool i)) := ⟨pe_bl, den_bl⟩
theorem cN {j} : EP K X (.Constant .none j pos) (tC .non) (eC .none) := ⟨pe_non, den_non⟩
theorem cS {i : Str} {j} : EP K X (.Constant (.str i) j pos) (tC (.str i)) (eC (.str i)) := ⟨pe_str, den_str⟩
theorem op_or {g : Value → Value → Sem Value} {r r' : R2} (h : OpR X g r) (h' : OpR X g r') : OpR X g (fun x y H Q => r x y H Q ∨ r' x y H Q) := by
  intro pins s σ H x y v u Q I rx ry q
  rcases q with q | q
  · exact h pins s σ H x y v u Q I rx ry q
  · exact h' pins s σ H x y v u Q I rx ry q
theorem bAdd (ha : EO K X a ta fa) (hb : EO K X b tb fb) : EP K X (.BinOp a .Add b pos) (tOp rAddU ta tb) (e2 gAdd fa fb) := ⟨pe_op (op_or op_add op_add_str) ha.pe hb.pe, den_op ok_add ha.de hb.de⟩
theorem bSub (ha : EO K X a ta fa) (hb : EO K X b tb fb) : EP K X (.BinOp a .Sub b pos) (tOp (rI0 fun i j => .int (i - j)) ta tb) (e2 (gI (· - ·)) fa fb) := ⟨pe_op op_sub ha.pe hb.pe, den_op ok_I ha.de hb.de⟩
theorem bMul (ha : EO K X a ta fa) (hb : EO K X b tb fb) : EP K X (.BinOp a .Mult b pos) (tOp (rI CMul fun i j => .int (i * j)) ta tb) (e2 (gIC cMul (· * ·)) fa fb) := ⟨pe_op op_mul ha.pe hb.pe, den_op (ok_IC c_mul) ha.de hb.de⟩
theorem bDiv (ha : EO K X a ta fa) (hb : EO K X b tb fb) : EP K X (.BinOp a .FloorDiv b pos) (tOp (rI CDiv fun i j => .int (i / j)) ta tb) (e2 (gIC cDiv (· / ·)) fa fb) := ⟨pe_op op_fdiv ha.pe hb.pe, den_op (ok_IC c_div) ha.de hb.de⟩
theorem bMod (ha : EO K X a ta fa) (hb : EO K X b tb fb) : EP K X (.BinOp a .Mod b pos) (tOp (rI (fun _ j => 0 < j) fun i j => .int (i % j)) ta tb) (e2 (gIC cMod (· % ·)) fa fb) := ⟨pe_op op_mod ha.pe hb.pe, den_op (ok_IC c_mod) ha.de hb.de⟩
theorem uNeg (ha : EO K X a ta fa) : EP K X (.UnaryOp .USub a pos) (tUn (rU fun i => .int (-i)) ta) (e1 gNeg fa) := ⟨pe_un un_neg ha.pe, den_neg ha.de⟩
/-- a comparison: its operator's rule, what it is of data, that its right side has no mark -/
theorem cmp {op : CmpOp} {r : R2} {g : PyData → PyData → Option PyData} (ho : OpR X (compareOp op) r ∧ Ok2 K r g) (ha : EO K X a ta fa) (hb : EO K X b tb fb) (hm : behindInMarks op b = false := by rfl) (hK : X.K = K := by rfl) : EP K X (.Compare a [op] [b] pos) (tOp r ta tb) (e2 g fa fb) := by
  subst hK
  exact ⟨pe_cmpR ho.1 ha.pe hb.pe hm, den_op ho.2 ha.de hb.de⟩
theorem tcmp {op : CmpOp} {r : R2} {g : PyData → PyData → Option PyData} (ho : OpR X (compareOp op) r ∧ Ok2 K r g) (ha : EO K X a ta fa) (hb : EO K X b tb fb) (hm : behindInMarks op b = false := by rfl) (hK : X.K = K := by rfl) : ET K X (.Compare a [op] [b] pos) (tTest (tOp r ta tb)) (tE (e2 g fa fb)) := by
  subst hK
  exact ⟨pt_cmpR ho.1 ha.pe hb.pe hm, den_test (den_op ho.2 ha.de hb.de).o⟩
theorem kLt (hK : X.K = K := by rfl) : OpR X (compareOp .Lt) (rI0 fun i j => .bl (decide (i < j))) ∧ Ok2 K (rI0 fun i j => .bl (decide (i < j))) (gB fun i j => decide (i < j)) := by
  subst hK
  exact ⟨op_lt, ok_B⟩
theorem kLe (hK : X.K = K := by rfl) : OpR X (compareOp .LtE) (rI0 fun i j => .bl (decide (i ≤ j))) ∧ Ok2 K (rI0 fun i j => .bl (decide (i ≤ j))) (gB fun i j => decide (i ≤ j)) := by
  subst hK
  exact ⟨op_le, ok_B⟩
theorem kGt (hK : X.K = K := by rfl) : OpR X (compareOp .Gt) (rI0 fun i j => .bl (decide (j < i))) ∧ Ok2 K (rI0 fun i j => .bl (decide (j < i))) (gB fun i j => decide (j < i)) := by
  subst hK
  exact ⟨op_gt, ok_B⟩
theorem kGe (hK : X.K = K := by rfl) : OpR X (compareOp .GtE) (rI0 fun i j => .bl (decide (j ≤ i))) ∧ Ok2 K (rI0 fun i j => .bl (decide (j ≤ i))) (gB fun i j => decide (j ≤ i)) := by
  subst hK
  exact ⟨op_ge, ok_B⟩
theorem kEq (hu : X.A.units + 65 < cLine) (hK : X.K = K := by rfl) : OpR X (compareOp .Eq) (rEqD K) ∧ Ok2 K (rEqD K) gEq := by
  subst hK
  exact ⟨op_eqD (by omega), ok_eq⟩
theorem kNe (hu : X.A.units + 65 < cLine) (hK : X.K = K := by rfl) : OpR X (compareOp .NotEq) (rNeD K) ∧ Ok2 K (rNeD K) gNe := by
  subst hK
  exact ⟨op_neD (by omega), ok_ne⟩
theorem kInL (hu : X.A.units + 65 < cLine) (hK : X.K = K := by rfl) : OpR X (compareOp .In) (rInD K) ∧ Ok2 K (rInD K) (gInL false) := by
  subst hK
  exact ⟨op_inD hu, ok_inL⟩
theorem kNiL (hu : X.A.units + 65 < cLine) (hK : X.K = K := by rfl) : OpR X (compareOp .NotIn) (rNotInD K) ∧ Ok2 K (rNotInD K) (gInL true) := by
  subst hK
  exact ⟨op_notInD hu, ok_niL⟩
theorem kInT (hK : X.K = K := by rfl) : OpR X (compareOp .In) (rIn K false) ∧ Ok2 K (rIn K false) (gInT false) := by
  subst hK
  exact ⟨op_in_seq, ok_inT⟩
theorem kNiT (hK : X.K = K := by rfl) : OpR X (compareOp .NotIn) (rIn K true) ∧ Ok2 K (rIn K true) (gInT true) := by
  subst hK
  exact ⟨op_notIn_seq, ok_niT⟩
theorem kInS (hK : X.K = K := by rfl) : OpR X (compareOp .In) rInS1 ∧ Ok2 K rInS1 (gInS false) := by
  subst hK
  exact ⟨op_in_sign, ok_inS⟩
theorem kNiS (hK : X.K = K := by rfl) : OpR X (compareOp .NotIn) rNiS1 ∧ Ok2 K rNiS1 (gInS true) := by
  subst hK
  exact ⟨op_notIn_sign, ok_niS⟩
theorem cIsN {k : Nat} {q : Pos} (ha : EO K X a ta fa) : EP K X (.Compare a [.Is] [.Constant .none k q] pos) (tOp (fun x y H Q => y = .non ∧ Q (.bl (decide (x = .non))) H) ta (tC .non)) (e1 (gIsN false) fa) := ⟨pe_cmpR op_isN ha.pe pe_non (nomark _), den_isN ha.de⟩
theorem cNotN {k : Nat} {q : Pos} (ha : EO K X a ta fa) : EP K X (.Compare a [.IsNot] [.Constant .none k q] pos) (tOp (fun x y H Q => y = .non ∧ Q (.bl (!decide (x = .non))) H) ta (tC .non)) (e1 (gIsN true) fa) := ⟨pe_cmpR op_notN ha.pe pe_non (nomark _), den_notN ha.de⟩
theorem tIsN_ {k : Nat} {q : Pos} (ha : EO K X a ta fa) : ET K X (.Compare a [.Is] [.Constant .none k q] pos) (tTest (tOp (fun x y H Q => y = .non ∧ Q (.bl (decide (x = .non))) H) ta (tC .non))) (tE (e1 (gIsN false) fa)) := ⟨pt_cmpR op_isN ha.pe pe_non (nomark _), den_test (den_isN ha.de).o⟩
theorem tNotN_ {k : Nat} {q : Pos} (ha : EO K X a ta fa) : ET K X (.Compare a [.IsNot] [.Constant .none k q] pos) (tTest (tOp (fun x y H Q => y = .non ∧ Q (.bl (!decide (x = .non))) H) ta (tC .non))) (tE (e1 (gIsN true) fa)) := ⟨pt_cmpR op_notN ha.pe pe_non (nomark _), den_test (den_notN ha.de).o⟩
/-! ### tests -/
variable {tA' tB' : TT} {t u : Env → Option Bool}
theorem tVal (h : EO K X e te f) (he : ∀ whole, isTrue e X.env whole = (do let v ← whole; standAt e.pos; holding [v] (truthy v)) := by intro _; rfl) : ET K X e (tB te) (tE f) := ⟨pt_val h.pe he, den_val h.de⟩
/-- chains of and, or -/
structure EW (K : PySem.W.Frag) (X : Cx) (e : Expr) (t : TT) (f : Env → Option Bool) : Prop where
  pe : PW X e t
  de : DenT K t f
theorem EW.tt (h : EW K X e tA' t) : ET K X e tA' t := ⟨h.pe.pt, h.de⟩
theorem wA1 (h : ET K X a tA' t) : EW K X (.BoolOp .And [a] pos) tA' t := ⟨pw_and1 h.pe, h.de⟩
theorem wO1 (h : ET K X a tA' t) : EW K X (.BoolOp .Or [a] pos) tA' t := ⟨pw_or1 h.pe, h.de⟩
theorem wA {rest : List Expr} (h : ET K X a tA' t) (k : EW K X (.BoolOp .And (b :: rest) pos) tB' u) : EW K X (.BoolOp .And (a :: b :: rest) pos) (tAnd tA' tB') (tA t u) := ⟨pw_and h.pe k.pe, den_and h.de k.de⟩
theorem wO {rest : List Expr} (h : ET K X a tA' t) (k : EW K X (.BoolOp .Or (b :: rest) pos) tB' u) : EW K X (.BoolOp .Or (a :: b :: rest) pos) (tOr tA' tB') (tO t u) := ⟨pw_or h.pe k.pe, den_or h.de k.de⟩
theorem tNot_ (h : ET K X a tA' t) : ET K X (.UnaryOp .Not a pos) (tNot tA') (tN t) := ⟨pt_not h.pe, den_not h.de⟩
theorem vOne {op} (h : EP K X a ta fa) : EP K X (.BoolOp op [a] pos) ta fa := ⟨pe_one h.pe, h.de⟩
theorem vAnd {rest : List Expr} (ha : EO K X a ta fa) (hb : EP K X (.BoolOp .And (b :: rest) pos) tb fb) : EP K X (.BoolOp .And (a :: b :: rest) pos) (tAndV ta tb) (eAndB fa fb) := ⟨pe_and ha.pe hb.pe, den_andV ha.de hb.de⟩
theorem vOr {rest : List Expr} (ha : EO K X a ta fa) (hb : EP K X (.BoolOp .Or (b :: rest) pos) tb fb) : EP K X (.BoolOp .Or (a :: b :: rest) pos) (tOrV ta tb) (eOrB fa fb) := ⟨pe_or ha.pe hb.pe, den_orV ha.de hb.de⟩
theorem vNot (h : EO K X a ta fa) : EP K X (.UnaryOp .Not a pos) (tNotV ta) (eNotB fa) := ⟨pe_not h.pe, den_notV h.de⟩
theorem vIf (h : ET K X c tA' t) (ha : EP K X a ta fa) (hb : EP K X b tb fb) : EP K X (.IfExp c a b pos) (tIf tA' ta tb) (eIf t fa fb) := ⟨pe_ifExp h.pe ha.pe hb.pe, den_if h.de ha.de hb.de⟩
/-! ### arguments -/
variable {es : List Expr} {tr : TA} {fr : Env → Option (List PyData)}
theorem xN : EA K X [] tNil aNil := ⟨pa_nil, den_anil⟩
theorem xC (h : EO K X e te f) (hr : EA K X es tr fr) (hs : starEach (e :: es) X.env = (false, eval e X.env) :: starEach es X.env := by rfl) : EA K X (e :: es) (tCons te tr) (aCons f fr) := ⟨pa_cons h.pe hr.pe hs, den_acons h.de hr.de⟩
theorem yN : EB K X [] tNil aNil := ⟨pa_nil, den_apnil⟩
theorem yC (h : EP K X e te f) (hr : EB K X es tr fr) (hs : starEach (e :: es) X.env = (false, eval e X.env) :: starEach es X.env := by rfl) : EB K X (e :: es) (tCons te tr) (aCons f fr) := ⟨pa_cons h.pe hr.pe hs, den_apcons h.de hr.de⟩
theorem dTup {x1} (h : EB K X es tr fr) : EP K X (.Tuple es x1 pos) (tTup tr) (eTup fr) := ⟨pe_tup h.pe, den_tup h.de⟩
theorem dLst (h : EB K X es tr fr) : EN K X (.List es pos) (tLst tr) (nLst fr) := ⟨pe_lst h.pe, den_lst h.de⟩
/-! ### parts -/
theorem qN : EQ K X none tNoPart oNone := ⟨po_none, den_onone⟩
theorem qS (h : EO K X e te f) : EQ K X (some e) (tPart te) (oSome f) := ⟨po_some h.pe, den_osome h.de⟩
variable {lo hi : Option Expr} {tl th : TO} {fl fh : Env → Option (Option Int)} {p2 : Pos}
theorem slL (h : EO K X e te f) (hl : EQ K X lo tl fl) (hh : EQ K X hi th fh) (hK : X.K = K := by rfl) : EN K X (.Subscript e (.Slice lo hi none p2) pos) (tSl (rSlL K) te tl th) (nSl f fl fh) := by
  subst hK
  exact ⟨pe_slice sl_list h.pe hl.pe hh.pe, den_slL h.de hl.de hh.de⟩
theorem slS (h : EO K X e te f) (hl : EQ K X lo tl fl) (hh : EQ K X hi th fh) : EP K X (.Subscript e (.Slice lo hi none p2) pos) (tSl rSlS te tl th) (eSlS f fl fh) := ⟨pe_slice sl_str h.pe hl.pe hh.pe, den_slS h.de hl.de hh.de⟩
theorem slT (h : EO K X e te f) (hl : EQ K X lo tl fl) (hh : EQ K X hi th fh) (hK : X.K = K := by rfl) : EP K X (.Subscript e (.Slice lo hi none p2) pos) (tSl (rSlA K) te tl th) (eSlT f fl fh) := by
  subst hK
  exact ⟨pe_slice sl_tupA h.pe hl.pe hh.pe, den_slT h.de hl.de hh.de⟩
theorem slR {k : Nat} {p1 p3 p4 : Pos} (h : EO K X e te f) (hK : X.K = K := by rfl) : EN K X (.Subscript e (.Slice none none (some (.UnaryOp .USub (.Constant (.int 1) k p1) p3)) p4) pos) (tRevL K te) (nRev f) := by
  subst hK
  exact ⟨pe_revL h.pe, den_rev h.de⟩
theorem ixx (ha : EO K X a ta fa) (hb : EO K X b tb fb) (hs : PlainIx b := by exact fun _ _ => rfl) (hK : X.K = K := by rfl) : EP K X (.Subscript a b pos) (tOp (rIx K) ta tb) (e2 gIx fa fb) := by
  subst hK
  exact ⟨pe_ix ix_seq ha.pe hb.pe hs, den_op ok_ix ha.de hb.de⟩
theorem bCat (ha : EO K X a ta fa) (hb : EO K X b tb fb) : EN K X (.BinOp a .Add b pos) (tOp rCat ta tb) (nCat fa fb) := ⟨pe_op op_cat ha.pe hb.pe, den_cat ha.de hb.de⟩
theorem bRep (ha : EO K X a ta fa) (hb : EO K X b tb fb) : EN K X (.BinOp a .Mult b pos) (tOp rRep ta tb) (nRep fa fb) := ⟨pe_op op_rep ha.pe hb.pe, den_rep ha.de hb.de⟩
/-! ### calls -/
variable {p : Pos}
theorem fLen (hm : X.mg "len" = none) (hg : Gl X "len" := by rfl) (ha : EA K X (e :: es) tr fr) (he : starEach (e :: es) X.env = (false, eval e X.env) :: starEach es X.env := by rfl) (hpl : (backTo pos (starEach es X.env)).any (·.1) = false := by rfl) (hK : X.K = K := by rfl) :
    EP K X (.Call (.Name "len" p) (e :: es) [] pos) (tCB (fun xs H Q => ∃ x n, xs = [x] ∧ LenV K x H n ∧ Q (.int n) H) tr) (eA gLen fr) := by
  subst hK
  exact ⟨pe_callB call_len hg hm PySem.boot_len ha.pe (by decide) (by decide) he hpl, den_cb okc_len ha.de⟩
theorem fAbs (hm : X.mg "abs" = none) (hg : Gl X "abs" := by rfl) (ha : EA K X (e :: es) tr fr) (he : starEach (e :: es) X.env = (false, eval e X.env) :: starEach es X.env := by rfl) (hpl : (backTo pos (starEach es X.env)).any (·.1) = false := by rfl) :
    EP K X (.Call (.Name "abs" p) (e :: es) [] pos) (tCB (fun xs H Q => ∃ i, xs = [.int i] ∧ Q (.int (if i < 0 then -i else i)) H) tr) (eA gAbs fr) := ⟨pe_callB call_abs hg hm (by decide +kernel) ha.pe (by decide) (by decide) he hpl, den_cb okc_abs ha.de⟩
theorem fMax (hm : X.mg "max" = none) (hc : X.calm = true := by rfl) (hg : Gl X "max" := by rfl) (ha : EA K X (e :: es) tr fr) (he : starEach (e :: es) X.env = (false, eval e X.env) :: starEach es X.env := by rfl) (hpl : (backTo pos (starEach es X.env)).any (·.1) = false := by rfl) :
    EP K X (.Call (.Name "max" p) (e :: es) [] pos) (tCB (fun xs H Q => ∃ i j, xs = [.int i, .int j] ∧ Q (.int (if j > i then j else i)) H) tr) (eA gMax fr) := ⟨pe_callB (call_max2 hc) hg hm (by decide +kernel) ha.pe (by decide) (by decide) he hpl, den_cb okc_max ha.de⟩
theorem fInt (hm : X.mg "int" = none) (hg : Gl X "int" := by rfl) (ha : EA K X (e :: es) tr fr) (he : starEach (e :: es) X.env = (false, eval e X.env) :: starEach es X.env := by rfl) (hpl : (backTo pos (starEach es X.env)).any (·.1) = false := by rfl) :
    EP K X (.Call (.Name "int" p) (e :: es) [] pos) (tCB (fun xs H Q => (∃ i, xs = [.int i] ∧ Q (.int i) H) ∨ ∃ k, xs = [.bl k] ∧ Q (.int (if k then 1 else 0)) H) tr) (eA gInt fr) := ⟨pe_callTy call_int1 hg hm (by decide +kernel) ha.pe (by decide) (by decide) he hpl, den_cb okc_int ha.de⟩
theorem fList (hm : X.mg "list" = none) (hg : Gl X "list" := by rfl) (ha : EA K X (e :: es) tr fr) (he : starEach (e :: es) X.env = (false, eval e X.env) :: starEach es X.env := by rfl) (hpl : (backTo pos (starEach es X.env)).any (·.1) = false := by rfl) (hK : X.K = K := by rfl) :
    EN K X (.Call (.Name "list" p) (e :: es) [] pos) (tCB (fun xs H Q => ∃ p ys, xs = [.ref p] ∧ (SqL K H p ys ∨ SqT K H p ys) ∧ ∀ l, H l = none → Q (.ref l) (upd H l (.lst ys))) tr) (nList fr) := by
  subst hK
  exact ⟨pe_callTy call_list_of hg hm (by decide +kernel) ha.pe (by decide) (by decide) he hpl, den_list ha.de⟩
/-- isinstance(x, T), T the name of a built-in class -/
theorem fIsi (n : String) {y : Str} {q : Pos} (hm : X.mg "isinstance" = none) (hy : X.mg y = none) (hv : bootBuiltins y = some (.type n) := by decide +kernel) (hg : Gl X "isinstance" := by rfl) (hgy : Gl X y := by rfl) (ha : EO K X e te f) (hn : y ≠ "__name__" := by decide) (hd : (y == ("__debug__" : Str)) = false := by decide)
    (he : starEach (e :: [.Name y q]) X.env = (false, eval e X.env) :: starEach [.Name y q] X.env := by rfl) (hs2 : starEach [.Name y q] X.env = (false, eval (.Name y q) X.env) :: starEach [] X.env := by rfl) (hpl : (backTo pos (starEach [.Name y q] X.env)).any (·.1) = false := by rfl) (hK : X.K = K := by rfl) :
    EP K X (.Call (.Name "isinstance" p) [e, .Name y q] [] pos) (tCB (rIsi K) (tCons te (tCons (tC (.ty n)) tNil))) (e1 (gIsi n) f) := by
  subst hK
  exact ⟨pe_callB call_isi hg hm (by decide +kernel) (pa_cons ha.pe (pa_cons (pe_bltn (v := .ty n) hgy hy hv rfl hn hd) pa_nil hs2) he) (by decide) (by decide) he hpl, den_isi ha.de⟩
/-- a def of the program that a plain function tells -/
theorem cal {n k f : Nat} {fd : FuncData} {x : Str} {ps : List Str} {g : List PyData → Option PyData} (F : FnOk X.prog X.w K X.mg X.base CX0 k f fd ps (spD K n g)) (hr : Room k X.A) (hm : X.mg x = some (.ref f)) (hk : PySem.W.keepIn K (.ref f) = true) (hb : Binds K fd ps []) (ha : EB K X (e :: es) tr fr)
    (hg : Gl X x := by rfl) (hdb : (x == ("__debug__" : Str)) = false := by decide) (he : starEach (e :: es) X.env = (false, eval e X.env) :: starEach es X.env := by rfl) (hpl : (backTo pos (starEach es X.env)).any (·.1) = false := by rfl) (hK : X.K = K := by rfl) :
    EP K X (.Call (.Name x p) (e :: es) [] pos) (tCall (spD K n g) [] E0 tr) (eA (fun ds => if ds.length = n then g ds else none) fr) := by
  subst hK
  exact ⟨pe_call F hr hg hm hk hb .nil pass0 ha.pe hdb he hpl, den_call ha.de⟩
theorem fJoin {ap q : Pos} (ha : EO K X a ta fa) (hb : EO K X b tb fb) (hs : starEach [b] X.env = [(false, eval b X.env)] := by rfl) (h1 : attributeBase a "join" X.env (eval a X.env) = eval a X.env := by rfl) (h2 : (ap.endLine == q.line) = true := by rfl) (hK : X.K = K := by rfl) :
    EP K X (.Call (.Attribute a "join" ap) [b] [] q) (tM1 (rJoin K) ta tb) (e2 gJoin fa fb) := by
  subst hK
  exact ⟨pe_join ha.pe hb.pe hs h1 h2, den_join ha.de hb.de⟩
/-! ### walks -/
variable {tg : Expr}
theorem iL (h : EP K X e te f) (hK : X.K = K := by rfl) : EI K X tg e (iList K te) (iLS f) := by
  subst hK
  exact ⟨pi_list h.pe, den_il h.de⟩
theorem jL (h : EO K X e te f) (hK : X.K = K := by rfl) : EJ K X tg e (iList K te) (iLS f) := by
  subst hK
  exact ⟨pi_list h.pe, den_ilo h.de⟩
theorem iTu (h : EO K X e te f) (hK : X.K = K := by rfl) : EI K X tg e (iTup K te) (iT f) := by
  subst hK
  exact ⟨pi_tup h.pe, den_it h.de⟩
theorem iSt (h : EO K X e te f) : EI K X tg e (iStr te) (iS f) := ⟨pi_str h.pe, den_is h.de⟩
theorem iRa (hm : X.mg "range" = none) (ha : EA K X [a] tr fr) (hg : Gl X "range" := by rfl) (hs : starEach [a] X.env = [(false, eval a X.env)] := by rfl) : EI K X tg (.Call (.Name "range" p) [a] [] pos) (iRng1 tr) (iR1 fr) := ⟨pi_range1 hg hm ha.pe hs, den_ir1 ha.de⟩
theorem iRv_ (hm : X.mg "reversed" = none) (ha : EB K X [a] tr fr) (hg : Gl X "reversed" := by rfl) (hs : starEach [a] X.env = [(false, eval a X.env)] := by rfl) (hK : X.K = K := by rfl) : EI K X tg (.Call (.Name "reversed" p) [a] [] pos) (iRev K tr) (iRv fr) := by
  subst hK
  exact ⟨pi_reversed hg hm ha.pe hs, den_irv ha.de⟩
variable {elts : List Expr} {kk : Nat} {tpos : Pos}
theorem iEn_ (hm : X.mg "enumerate" = none) (ha : EB K X [a] tr fr) (hg : Gl X "enumerate" := by rfl) (hs : starEach [a] X.env = [(false, eval a X.env)] := by rfl) (hK : X.K = K := by rfl) : EI K X (.Tuple elts kk tpos) (.Call (.Name "enumerate" p) [a] [] pos) (iEnum K tr) (iEn fr) := by
  subst hK
  exact ⟨pi_enum hg hm ha.pe hs, den_ien ha.de⟩
theorem iZp_ (hm : X.mg "zip" = none) (ha : EB K X [a, b] tr fr) (hg : Gl X "zip" := by rfl) (hs : starEach [a, b] X.env = (false, eval a X.env) :: starEach [b] X.env := by rfl) (h2 : (backTo pos (starEach [b] X.env)).any (·.1) = false := by rfl) (hK : X.K = K := by rfl) :
    EI K X (.Tuple elts kk tpos) (.Call (.Name "zip" p) [a, b] [] pos) (iZip K tr) (iZp fr) := by
  subst hK
  exact ⟨pi_zip hg hm ha.pe hs h2, den_izp ha.de⟩
variable {wi : TI} {fi : Env → Option (List PyData)}
theorem EI.j (h : EI K X tg e wi fi) : EJ K X tg e wi fi := ⟨h.pe, h.de.o⟩
/-! ### targets -/
theorem gN (i : Nat) {x : Str} {S : List Nat} (nd : X.N.Nodup) (hi : i ∈ S := by decide) (hN : X.N[i]? = some x := by rfl) (hl : Loc X.env.scope x := by first | exact Or.inl rfl | exact Or.inr rfl) (hf : X.fn x = true ∨ X.env.scope.names.lookup x = some .local := by first | exact Or.inr rfl | exact Or.inl rfl) : EG K X S (.Name x pos) (gName i) (tgN i) :=
  ⟨pg_name nd hN hl hf, den_gn hi⟩
theorem gs0 {S : List Nat} : EGs K X S [] gNil tgNil := ⟨pgs_nil, den_gnil⟩
theorem gsC {S : List Nat} {e : Expr} {es : List Expr} {g : TG} {gs : TGs} {G : PyData → Env → Option Env} {Gs : List PyData → Env → Option Env} (h : EG K X S e g G) (hs : EGs K X S es gs Gs) (hx : (assignEach (e :: es) X.env).map (·.2) = assign e X.env :: (assignEach es X.env).map (·.2) := by rfl) : EGs K X S (e :: es) (gCons g gs) (tgCons G Gs) :=
  ⟨pgs_cons h.pe hs.pe hx, den_gcons h.de hs.de⟩
theorem gT {S : List Nat} {es : List Expr} {gs : TGs} {Gs : List PyData → Env → Option Env} {n k : Nat} (h : EGs K X S es gs Gs) (hc : X.calm = true := by rfl) (hn : (assignEach es X.env).length = n := by rfl) (hst : (assignEach es X.env).findIdx? (·.1) = none := by rfl) (hK : X.K = K := by rfl) : EG K X S (.Tuple es k pos) (gTup K n gs) (tgT n Gs) := by
  subst hK
  exact ⟨pg_tup hc h.pe hn hst, den_gtup h.de⟩
/-! ### statements -/
variable {st : Stmt} {rest : List Stmt} {ts tu : TS} {F F2 : Env → Option Out} {g : TG} {G : PyData → Env → Option Env} {S : List Nat}
theorem b0 : EK K X [] tNext sNext := ⟨pss_nil, dens_next⟩
theorem b1 (h : ES K X st ts F) : EK K X [st] ts F := ⟨pss_one h.pe, h.de⟩
theorem bC (h : ES K X st ts F) (hr : EK K X rest tu F2) : EK K X (st :: rest) (tSeq ts tu) (sSeq F F2) := ⟨pss_cons h.pe hr.pe, dens_seq h.de hr.de⟩
theorem EK.free (i : Nat) (h : EK K X rest ts F) : EK K X rest ts (sFree i F) := ⟨h.pe, dens_free h.de⟩
theorem ES.free (i : Nat) (h : ES K X st ts F) : ES K X st ts (sFree i F) := ⟨h.pe, dens_free h.de⟩
theorem zAsg (h : EP K X e te f) (hg : EG K X S tg g G) (hs : swapsWithSole [tg] e pos.line X.env = pure false := by rfl) (h2 : swappedStores [tg] e X.env = pure none := by rfl) (h3 : (assignEach [tg] X.env).map (·.2) = [assign tg X.env] := by rfl) : ES K X (.Assign [tg] e pos) (tAsg te g) (sAsg f G) :=
  ⟨ps_asg h.pe hg.pe hs h2 h3, dens_asg h.de hg.de⟩
theorem zOwn (i : Nat) {x : Str} {px : Pos} (nd : X.N.Nodup) (h : EN K X e te fn) (hN : X.N[i]? = some x := by rfl) (hl : Loc X.env.scope x := by first | exact Or.inl rfl | exact Or.inr rfl) (hf : X.fn x = true ∨ X.env.scope.names.lookup x = some .local := by first | exact Or.inr rfl | exact Or.inl rfl)
    (hs : swapsWithSole [.Name x px] e pos.line X.env = pure false := by rfl) (h2 : swappedStores [.Name x px] e X.env = pure none := by rfl) (h3 : (assignEach [.Name x px] X.env).map (·.2) = [assign (.Name x px) X.env] := by rfl) : ES K X (.Assign [.Name x px] e pos) (tAsg te (gName i)) (sOwn fn i) :=
  ⟨ps_asg h.pe (pg_name nd hN hl hf) hs h2 h3, dens_own h.de⟩
theorem zRet (h : EP K X e te f) : ES K X (.Return (some e) pos) (tRet te) (sRet f) := ⟨ps_ret h.pe, dens_ret h.de⟩
theorem zRetO (i : Nat) {x : Str} {q : Pos} (h : EO K X (.Name x q) (tVar i) (eVarO i)) : ES K X (.Return (some (.Name x q)) pos) (tRet (tVar i)) (sRetO i) := ⟨ps_ret h.pe, dens_reto⟩
theorem zRetN (h : EN K X e te fn) : ES K X (.Return (some e) pos) (tRet te) (sRetN fn) := ⟨ps_ret h.pe, dens_retn h.de⟩
theorem zPass : ES K X (.Pass pos) tNext sNext := ⟨ps_pass, dens_next⟩
theorem zBreak : ES K X (.Break pos) tBreak sBreak := ⟨ps_break, dens_break⟩
theorem zCont : ES K X (.Continue pos) tCont sCont := ⟨ps_continue, dens_cont⟩
variable {sa sb : List Stmt}
theorem zIf (h : ET K X c tA' t) (ha : EK K X sa ts F) (hb : EK K X sb tu F2) : ES K X (.If c sa sb pos) (tIfS tA' ts tu) (sIf t F F2) := ⟨ps_if h.pe ha.pe hb.pe, dens_if h.de ha.de hb.de⟩
theorem zFor {iter : Expr} {body : List Stmt} (hp : PassesOwn (model X.prog X.w) X.A X.env X.xe) (hi : EI K X tg iter wi fi) (hg : EG K X S tg g G) (hb : EK K X body ts F) (hc : X.calm = true := by rfl) (hs : ∀ x, foldedSetIterable iter X.env x = pure x := by intro _; rfl) : ES K X (.For tg iter body [] pos) (tFor wi g ts) (sFor fi G F) :=
  ⟨ps_for hp hc hi.pe hg.pe hb.pe hs, dens_for hi.de hg.de hb.de⟩
theorem zApp (i : Nat) {x : Str} {px ap q qq : Pos} (hx : EO K X (.Name x px) (tVar i) (eVarO i)) (h : EP K X e te f) (hb : attributeBase (.Name x px) "append" X.env (eval (.Name x px) X.env) = eval (.Name x px) X.env := by rfl)
    (hfew : (((backTo q (starEach [e] X.env)).all (!·.1) && (backToKw q (keywordEach [] X.env)).all (·.1.isSome)) && decide (([e].length + ([] : List Keyword).length + if ([] : List Keyword).isEmpty = true then 0 else 1) < 30)) = true := by rfl) (hl : (ap.endLine == q.line) = true := by rfl)
    (he : starEach (e :: []) X.env = (false, eval e X.env) :: starEach [] X.env := by rfl) (hpl : (backTo q (starEach [] X.env)).any (·.1) = false := by rfl) (hs : swapsWith (.Call (.Attribute (.Name x px) "append" ap) [e] [] q) none qq.line X.env = pure false := by rfl) (hK : X.K = K := by rfl) : ES K X (.Expr (.Call (.Attribute (.Name x px) "append" ap) [e] [] q) qq) (tDrop (tBM K "list" rAppend (tVar i) (tCons te tNil))) (sApp i f) := by
  subst hK
  exact ⟨ps_expr (pe_bm PySem.F.plainAttrs_list PySem.F.slot_list_append PySem.F.type_list_append mt_append hx.pe (pa_cons h.pe pa_nil he) hb hfew hl he hpl) hs, dens_app h.de⟩
theorem zExt (i : Nat) {x : Str} {px ap q qq : Pos} (hx : EO K X (.Name x px) (tVar i) (eVarO i)) (h : EP K X e te f) (hb : attributeBase (.Name x px) "extend" X.env (eval (.Name x px) X.env) = eval (.Name x px) X.env := by rfl)
    (hfew : (((backTo q (starEach [e] X.env)).all (!·.1) && (backToKw q (keywordEach [] X.env)).all (·.1.isSome)) && decide (([e].length + ([] : List Keyword).length + if ([] : List Keyword).isEmpty = true then 0 else 1) < 30)) = true := by rfl) (hl : (ap.endLine == q.line) = true := by rfl)
    (he : starEach (e :: []) X.env = (false, eval e X.env) :: starEach [] X.env := by rfl) (hpl : (backTo q (starEach [] X.env)).any (·.1) = false := by rfl) (hs : swapsWith (.Call (.Attribute (.Name x px) "extend" ap) [e] [] q) none qq.line X.env = pure false := by rfl) (hK : X.K = K := by rfl) : ES K X (.Expr (.Call (.Attribute (.Name x px) "extend" ap) [e] [] q) qq) (tDrop (tBM K "list" rExtend (tVar i) (tCons te tNil))) (sExt i f) := by
  subst hK
  exact ⟨ps_expr (pe_bm PySem.F.plainAttrs_list PySem.F.slot_list_extend PySem.F.type_list_extend mt_extend hx.pe (pa_cons h.pe pa_nil he) hb hfew hl he hpl) hs, dens_ext h.de⟩
/-! ### comprehensions -/
structure ETs (K : PySem.W.Frag) (X : Cx) (es : List Expr) (t : TT) (f : Env → Option Bool) : Prop where
  pe : PTs X es t
  de : DenT K t f
theorem ts0 : ETs K X [] tYes (fun _ => some true) := ⟨pts_nil, denT_yes⟩
theorem ts1 (h : ET K X c tA' t) : ETs K X [c] tA' t := ⟨pts_one h.pe, h.de⟩
theorem lcp {iter : Expr} {ifs : List Expr} {scope : Scope} (own : List (Str × Nat)) (s0 : Shared) (nd : X.N.Nodup) (hi : EJ K X tg iter wi fi) (ok : BlkOk X.N X.env.scope scope own)
    (hg : ∀ (s : Shared) (H : Hp) (C : Addr) (cl : List (Str × Addr)) (fp : List Addr), EG K (X.blk s H scope (compEnvC scope cl C X.env) fp) (own.map (·.2)) tg g G)
    (ht : ∀ (s : Shared) (H : Hp) (C : Addr) (cl : List (Str × Addr)) (fp : List Addr), ETs K (X.blk s H scope (compEnvC scope cl C X.env) fp) ifs tA' t)
    (he : ∀ (s : Shared) (H : Hp) (C : Addr) (cl : List (Str × Addr)) (fp : List Addr), EP K (X.blk s H scope (compEnvC scope cl C X.env) fp) e te f) (hc : X.calm = true := by rfl)
    (hs : ∀ x, foldedSetIterable iter X.env x = pure x := by intro _; rfl) : EN K X (.ListComp e [⟨tg, iter, ifs, 0⟩] scope pos) (tLc wi g tA' te (own.map (·.2))) (nLc fi G t f (own.map (·.2))) :=
  ⟨pe_lc hc nd hi.pe ok (fun s H C cl fp => (hg s H C cl fp).pe) (fun s H C cl fp => (ht s H C cl fp).pe) (fun s H C cl fp => (he s H C cl fp).pe) hs,
    den_lc hi.de (hg s0 (fun _ => none) 0 [] []).de (ht s0 (fun _ => none) 0 [] []).de (he s0 (fun _ => none) 0 [] []).de⟩
/-- y = [..] -/
theorem zLc {iter : Expr} {ifs : List Expr} {scope : Scope} (i : Nat) {y : Str} {py spos : Pos} (own : List (Str × Nat)) (s0 : Shared) (nd : X.N.Nodup) (hi : EJ K X tg iter wi fi) (ok : BlkOk X.N X.env.scope scope own)
    (hg : ∀ (s : Shared) (H : Hp) (C : Addr) (cl : List (Str × Addr)) (fp : List Addr), EG K (X.blk s H scope (compEnvC scope cl C X.env) fp) (own.map (·.2)) tg g G)
    (ht : ∀ (s : Shared) (H : Hp) (C : Addr) (cl : List (Str × Addr)) (fp : List Addr), ETs K (X.blk s H scope (compEnvC scope cl C X.env) fp) ifs tA' t)
    (he : ∀ (s : Shared) (H : Hp) (C : Addr) (cl : List (Str × Addr)) (fp : List Addr), EP K (X.blk s H scope (compEnvC scope cl C X.env) fp) e te f)
    (hsw : swapsWith (.ListComp e [⟨tg, iter, ifs, 0⟩] scope pos) (some (.Name y py)) spos.line X.env = pure true) (hy : X.N[i]? = some y := by rfl) (hyl : X.env.scope.names.lookup y = some .local := by rfl) (hc : X.calm = true := by rfl)
    (hs : ∀ x, foldedSetIterable iter X.env x = pure x := by intro _; rfl) : ES K X (.Assign [.Name y py] (.ListComp e [⟨tg, iter, ifs, 0⟩] scope pos) spos) (tAsg (tLc wi g tA' te (own.map (·.2))) (gName i)) (sOwn (nLc fi G t f (own.map (·.2))) i) :=
  ⟨ps_setLc hc nd hy hyl hsw hi.pe ok (fun s H C cl fp => (hg s H C cl fp).pe) (fun s H C cl fp => (ht s H C cl fp).pe) (fun s H C cl fp => (he s H C cl fp).pe) hs,
    dens_own (den_lc hi.de (hg s0 (fun _ => none) 0 [] []).de (ht s0 (fun _ => none) 0 [] []).de (he s0 (fun _ => none) 0 [] []).de)⟩
end
theorem ek_out {X : Cx} {K : PySem.W.Frag} {sts : List Stmt} {t : TS} {F : Env → Option Out} (h : EK K X sts t F) : ∃ t, PSs X sts t ∧ DenS K t F := ⟨t, h.pe, h.de⟩
/-- a def that may be called by its name -/
def Cal (P : Program) (w : World) (K : PySem.W.Frag) (mg : Str → Option Value) (base : Heap) (k : Nat) (x : Str) (n : Nat) (ps : List Str) (g : List PyData → Option PyData) : Prop :=
  ∃ (f : Addr) (fd : FuncData), FnOk P w K mg base CX0 k f fd ps (spD K n g) ∧ mg x = some (.ref f) ∧ PySem.W.keepIn K (.ref f) = true ∧ Binds K fd ps []
theorem cal1 {K : PySem.W.Frag} {X : Cx} {x : Str} {p pos : Pos} {e : Expr} {es : List Expr} {tr : TA} {fr : PL.Env → Option (List PyData)} {n k m : Nat} {ps : List Str} {g : List PyData → Option PyData} (C : Cal X.prog X.w K X.mg X.base k x n ps g) (hr : Room m X.A) (hk : k ≤ m) (ha : EB K X (e :: es) tr fr)
    (hg : Gl X x := by rfl) (hdb : (x == ("__debug__" : Str)) = false := by decide) (he : starEach (e :: es) X.env = (false, eval e X.env) :: starEach es X.env := by rfl) (hpl : (backTo pos (starEach es X.env)).any (·.1) = false := by rfl) (hK : X.K = K := by rfl) :
    EP K X (.Call (.Name x p) (e :: es) [] pos) (tCall (spD K n g) [] E0 tr) (eA (fun ds => if ds.length = n then g ds else none) fr) := by
  subst hK
  obtain ⟨f, fd, F, hm, kp, hb⟩ := C
  exact cal F (hr.mono hk) hm kp hb ha hg hdb he hpl
/-! ### calls whose arguments may be hidden lists -/
mutual
def noList : PyData → Bool
  | .none | .bool _ | .int _ | .str _ => true
  | .tuple xs => noListAll xs
  | .list _ | .dict _ => false
def noListAll : List PyData → Bool
  | [] => true
  | x :: xs => noList x && noListAll xs
end
section
variable {K : PySem.W.Frag} {O : Hid} {H H' : Hp}
theorem unl_lst {a : Addr} {xs : List V} (h : H a = some (.lst xs)) : unl O H a = false := by
  unfold unl
  rw [h]
  simp
theorem opd_unl : ∀ {vs : List V} {ds : List PyData}, OpdAll K O H vs ds → RpAll K (vis (unl O H) H) vs ds
  | _, _, .nil => .nil
  | _, _, .cons h t => by
    refine .cons ?_ (opd_unl t)
    rcases h with h | ⟨a, vs, ds, rfl, h, r, rfl⟩ | ⟨kvs, hd, h⟩
    · exact h.mono unl_le
    · exact .lst (vis_at (unl_lst h) h) (r.mono unl_le)
    · exact h
mutual
theorem Rp.last (e : PL.Ex H H') : ∀ {v : V} {d : PyData}, Rp K (vis (unl O H) H') v d → noList d = true → Rp K (vis O H') v d
  | _, _, .non, _ => .non
  | _, _, .bl b, _ => .bl b
  | _, _, .int i, _ => .int i
  | _, _, .str x, _ => .str x
  | _, _, .lst h a, n => by cases n
  | _, _, .tup (a := b) h a, n => by
    have n' : noListAll _ = true := n
    refine .tup ?_ (RpAll.last e a n')
    rcases h with h | h
    · rcases h with h | ⟨o, h⟩
      · refine .inl (.inl (vis_at ?_ (vis_le _ _ h)))
        have h2 := vis_le _ _ h
        cases z : O b with
        | false => rfl
        | true =>
          have hu : unl O H b = false := by
            cases y : unl O H b with
            | false => rfl
            | true =>
              unfold vis at h
              rw [if_pos y] at h
              cases h
          unfold unl at hu
          rw [z] at hu
          cases q : H b with
          | none => rw [q] at hu; simp at hu
          | some u =>
            rw [e b u q] at h2
            cases h2
            rw [q] at hu
            simp at hu
      · refine .inl (.inr ⟨o, vis_at ?_ (vis_le _ _ h)⟩)
        have h2 := vis_le _ _ h
        cases z : O b with
        | false => rfl
        | true =>
          have hu : unl O H b = false := by
            cases y : unl O H b with
            | false => rfl
            | true =>
              unfold vis at h
              rw [if_pos y] at h
              cases h
          unfold unl at hu
          rw [z] at hu
          cases q : H b with
          | none => rw [q] at hu; simp at hu
          | some u =>
            rw [e b u q] at h2
            cases h2
            rw [q] at hu
            simp at hu
    · exact .inr h
  | _, _, .scr h, n => by cases n
theorem RpAll.last (e : PL.Ex H H') : ∀ {vs : List V} {ds : List PyData}, RpAll K (vis (unl O H) H') vs ds → noListAll ds = true → RpAll K (vis O H') vs ds
  | _, _, .nil, _ => .nil
  | _, _, .cons h t, n => by
    have n' : (noList _ && noListAll _) = true := n
    rw [Bool.and_eq_true] at n'
    exact .cons (Rp.last e h n'.1) (RpAll.last e t n'.2)
end
mutual
theorem Rp.nol {p : Addr} {zs : List V} : ∀ {v : V} {d : PyData}, Rp K (vis O H) v d → noList d = true → H p = some (.lst zs) → Rp K (vis (hid O p) H) v d
  | _, _, .non, _, _ => .non
  | _, _, .bl b, _, _ => .bl b
  | _, _, .int i, _, _ => .int i
  | _, _, .str x, _, _ => .str x
  | _, _, .lst h a, n, _ => by cases n
  | _, _, .tup (a := b) h a, n, hp => by
    have n' : noListAll _ = true := n
    refine .tup ?_ (RpAll.nol a n' hp)
    have go : ∀ u, vis O H b = some u → b ≠ p → vis (hid O p) H b = some u := fun u hb ne => by
      refine vis_at ?_ (vis_le _ _ hb)
      unfold hid
      rw [Bool.or_eq_false_iff]
      refine ⟨?_, by simp [ne]⟩
      cases z : O b with
      | false => rfl
      | true =>
        unfold vis at hb
        rw [if_pos z] at hb
        cases hb
    rcases h with (h | ⟨o, h⟩) | h
    · exact .inl (.inl (go _ h fun e => by rw [e] at h; rw [vis_le _ _ h] at hp; cases hp))
    · exact .inl (.inr ⟨o, go _ h fun e => by rw [e] at h; rw [vis_le _ _ h] at hp; cases hp⟩)
    · exact .inr h
  | _, _, .scr h, n, _ => by cases n
theorem RpAll.nol {p : Addr} {zs : List V} : ∀ {vs : List V} {ds : List PyData}, RpAll K (vis O H) vs ds → noListAll ds = true → H p = some (.lst zs) → RpAll K (vis (hid O p) H) vs ds
  | _, _, .nil, _, _ => .nil
  | _, _, .cons h t, n, hp => by
    have n' : (noList _ && noListAll _) = true := n
    rw [Bool.and_eq_true] at n'
    exact .cons (Rp.nol h n'.1 hp) (RpAll.nol t n'.2 hp)
end
theorem unl_al (al : ∀ a, O a = true → H a ≠ none) : ∀ a, unl O H a = true → H a ≠ none := fun a h => by
  unfold unl at h
  rw [Bool.and_eq_true] at h
  exact al a h.1
theorem den_callX {n : Nat} {g : List PyData → Option PyData} {E : XK} {tr : TA} {fr : PL.Env → Option (List PyData)} (h : DenA K tr fr) : DenP K (tCall (spD K n g) [] E tr) (eA (fun ds => if ds.length = n then (g ds).bind fun d => if noList d then some d else none else none) fr) := by
  intro base O0 O σ H env d S e Q q
  unfold eA at e
  cases k1 : fr env with
  | none => simp [k1] at e
  | some xs =>
    simp only [k1, Option.bind_some] at e
    split at e
    case isFalse => cases e
    rename_i hn
    cases k2 : g xs with
    | none => simp [k2] at e
    | some d2 =>
      simp only [k2, Option.bind_some] at e
      split at e
      case isFalse => cases e
      rename_i hl
      cases e
      refine h base O0 O σ H env xs S k1 _ fun vs H1 x1 r => ?_
      have r2 := opd_unl r
      show spD K n g (vs ++ []) H1 Q E
      rw [List.append_nil]
      exact ⟨unl O H1, xs, d, by rw [r2.length]; exact hn, unl_al (S.mono x1).all, r2, k2, fun v H2 x2 _ r3 => q v H2 (x1.trans x2) (r3.last x2 hl)⟩
theorem den_callNX {n : Nat} {g : List PyData → Option (List PyData)} {E : XK} {tr : TA} {fr : PL.Env → Option (List PyData)} (h : DenA K tr fr) : DenN K (tCall (spN K n g) [] E tr) (fun env => (fr env).bind fun ds => if ds.length = n then (g ds).bind fun es => if noListAll es then some es else none else none) := by
  intro base O0 O σ H env d S e Q q
  cases k1 : fr env with
  | none => simp [k1] at e
  | some xs =>
    simp only [k1, Option.bind_some] at e
    split at e
    case isFalse => cases e
    rename_i hn
    cases k2 : g xs with
    | none => simp [k2] at e
    | some d2 =>
      simp only [k2, Option.bind_some] at e
      split at e
      case isFalse => cases e
      rename_i hl
      cases e
      refine h base O0 O σ H env xs S k1 _ fun vs H1 x1 r => ?_
      have r2 := opd_unl r
      show spN K n g (vs ++ []) H1 Q E
      rw [List.append_nil]
      refine ⟨unl O H1, xs, d, by rw [r2.length]; exact hn, unl_al (S.mono x1).all, r2, k2, fun p ws H2 hp x2 g2 r3 => q p ws H2 (x1.free hp) (x1.trans x2) g2 ?_⟩
      have r4 : RpAll K (vis O H2) ws d := (r3.mono hid_le).last x2 hl
      exact RpAll.nol r4 hl g2
end
/-- a def that may be called by its name and hands back a new list -/
def CalN (P : Program) (w : World) (K : PySem.W.Frag) (mg : Str → Option Value) (base : Heap) (k : Nat) (x : Str) (n : Nat) (ps : List Str) (g : List PyData → Option (List PyData)) : Prop :=
  ∃ (f : Addr) (fd : FuncData), FnOk P w K mg base CX0 k f fd ps (spN K n g) ∧ mg x = some (.ref f) ∧ PySem.W.keepIn K (.ref f) = true ∧ Binds K fd ps []
section
variable {K : PySem.W.Frag} {X : Cx} {x : Str} {p pos : Pos} {e : Expr} {es : List Expr} {tr : TA} {fr : PL.Env → Option (List PyData)} {n k m : Nat} {ps : List Str}
theorem cal1N {g : List PyData → Option (List PyData)} (C : CalN X.prog X.w K X.mg X.base k x n ps g) (hr : Room m X.A) (hk : k ≤ m) (ha : EB K X (e :: es) tr fr)
    (hg : Gl X x := by rfl) (hdb : (x == ("__debug__" : Str)) = false := by decide) (he : starEach (e :: es) X.env = (false, eval e X.env) :: starEach es X.env := by rfl) (hpl : (backTo pos (starEach es X.env)).any (·.1) = false := by rfl) (hK : X.K = K := by rfl) :
    EN K X (.Call (.Name x p) (e :: es) [] pos) (tCall (spN K n g) [] E0 tr) (fun env => (fr env).bind fun ds => if ds.length = n then g ds else none) := by
  subst hK
  obtain ⟨f, fd, F, hm, kp, hb⟩ := C
  exact ⟨pe_call F (hr.mono hk) hg hm kp hb .nil pass0 ha.pe hdb he hpl, den_callN ha.de⟩
theorem cal1NX {g : List PyData → Option (List PyData)} (C : CalN X.prog X.w K X.mg X.base k x n ps g) (hr : Room m X.A) (hk : k ≤ m) (ha : EA K X (e :: es) tr fr)
    (hg : Gl X x := by rfl) (hdb : (x == ("__debug__" : Str)) = false := by decide) (he : starEach (e :: es) X.env = (false, eval e X.env) :: starEach es X.env := by rfl) (hpl : (backTo pos (starEach es X.env)).any (·.1) = false := by rfl) (hK : X.K = K := by rfl) :
    EN K X (.Call (.Name x p) (e :: es) [] pos) (tCall (spN K n g) [] E0 tr) (fun env => (fr env).bind fun ds => if ds.length = n then (g ds).bind fun es => if noListAll es then some es else none else none) := by
  subst hK
  obtain ⟨f, fd, F, hm, kp, hb⟩ := C
  exact ⟨pe_call F (hr.mono hk) hg hm kp hb .nil pass0 ha.pe hdb he hpl, den_callNX ha.de⟩
theorem cal1X {g : List PyData → Option PyData} (C : Cal X.prog X.w K X.mg X.base k x n ps g) (hr : Room m X.A) (hk : k ≤ m) (ha : EA K X (e :: es) tr fr)
    (hg : Gl X x := by rfl) (hdb : (x == ("__debug__" : Str)) = false := by decide) (he : starEach (e :: es) X.env = (false, eval e X.env) :: starEach es X.env := by rfl) (hpl : (backTo pos (starEach es X.env)).any (·.1) = false := by rfl) (hK : X.K = K := by rfl) :
    EP K X (.Call (.Name x p) (e :: es) [] pos) (tCall (spD K n g) [] E0 tr) (eA (fun ds => if ds.length = n then (g ds).bind fun d => if noList d then some d else none else none) fr) := by
  subst hK
  obtain ⟨f, fd, F, hm, kp, hb⟩ := C
  exact ⟨pe_call F (hr.mono hk) hg hm kp hb .nil pass0 ha.pe hdb he hpl, den_callX ha.de⟩
end
end PL
/-! A Store's plain state: what a row does to it. -/
namespace PL
open PySem L2

/-! ### pairs by their texts -/
def getA {α : Type} (l : List (Str × α)) (x : Str) : Option α := (l.find? fun q => decide (q.1 = x)).map (·.2)
def putA {α : Type} (l : List (Str × α)) (x : Str) (v : α) : List (Str × α) := if (l.any fun q => decide (q.1 = x)) = true then l.map (fun q => if q.1 = x then (q.1, v) else q) else l ++ [(x, v)]
def dropA {α : Type} (l : List (Str × α)) (x : Str) : List (Str × α) := l.filter fun q => decide (q.1 ≠ x)
def kvs {α : Type} (f : α → V) (l : List (Str × α)) : List (Key × V) := l.map fun q => (kS q.1, f q.2)
theorem kS_inj {x y : Str} : kS x = kS y ↔ x = y := ⟨fun h => by cases h; rfl, fun h => by rw [h]⟩
section
variable {α : Type} {f : α → V}
theorem valV_kvs (l : List (Str × α)) (x : Str) : valV (kvs f l) (kS x) = (getA l x).map f := by
  induction l with
  | nil => rfl
  | cons q r ih =>
    unfold kvs at ih ⊢
    rw [List.map_cons]
    by_cases e : q.1 = x
    · rw [valV_pos (by rw [e])]
      unfold getA
      rw [List.find?_cons_of_pos (by simp [e])]
      rfl
    · rw [valV_neg (fun z => e (kS_inj.mp z)), ih]
      unfold getA
      rw [List.find?_cons_of_neg (by simp [e])]
theorem putK_kvs (l : List (Str × α)) (x : Str) (v : α) : putK (kvs f l) (kS x) (f v) = kvs f (putA l x v) := by
  have ha : ((kvs f l).any fun kv => decide (kv.1 = kS x)) = l.any fun q => decide (q.1 = x) := by
    unfold kvs
    rw [List.any_map]
    congr 1
    funext q
    exact decide_eq_decide.mpr kS_inj
  unfold putK putA
  rw [ha]
  split
  · unfold kvs
    rw [List.map_map, List.map_map]
    apply List.map_congr_left
    intro q _
    show (if kS q.1 = kS x then (kS q.1, f v) else (kS q.1, f q.2)) = _
    by_cases e : q.1 = x
    · rw [if_pos (kS_inj.mpr e)]
      show _ = (fun q => (kS q.1, f q.2)) (if q.1 = x then (q.1, v) else q)
      rw [if_pos e]
    · rw [if_neg (fun z => e (kS_inj.mp z))]
      show _ = (fun q => (kS q.1, f q.2)) (if q.1 = x then (q.1, v) else q)
      rw [if_neg e]
  · unfold kvs
    rw [List.map_append]
    rfl
theorem dropK_kvs (l : List (Str × α)) (x : Str) : dropK (kvs f l) (kS x) = kvs f (dropA l x) := by
  unfold dropK dropA kvs
  rw [List.filter_map]
  congr 1
  apply List.filter_congr
  intro q _
  show decide (kS q.1 ≠ kS x) = decide (q.1 ≠ x)
  exact decide_eq_decide.mpr (not_congr kS_inj)
theorem getA_put (l : List (Str × α)) (x y : Str) (v : α) : getA (putA l x v) y = if y = x then some v else getA l y := by
  unfold putA
  split
  · rename_i h
    induction l with
    | nil => cases h
    | cons q r ih =>
      rw [List.map_cons]
      by_cases e : q.1 = x
      · rw [if_pos e]
        by_cases e2 : y = x
        · rw [if_pos e2]
          unfold getA
          rw [List.find?_cons_of_pos (by simp [e, e2])]
          rfl
        · rw [if_neg e2]
          have ne : ¬ q.1 = y := fun z => e2 (z.symm.trans e)
          unfold getA at ih ⊢
          rw [List.find?_cons_of_neg (by simp [ne]), List.find?_cons_of_neg (by simp [ne])]
          by_cases hr : (r.any fun q => decide (q.1 = x)) = true
          · have := ih hr
            rw [if_neg e2] at this
            exact this
          · have : r.map (fun q => if q.1 = x then (q.1, v) else q) = r := by
              conv => rhs; rw [← List.map_id r]
              apply List.map_congr_left
              intro z hz
              have : ¬ z.1 = x := fun e => hr (List.any_eq_true.mpr ⟨z, hz, by simp [e]⟩)
              rw [if_neg this]
              rfl
            rw [this]
      · rw [if_neg e]
        have hr : (r.any fun q => decide (q.1 = x)) = true := by
          rw [List.any_cons] at h
          simpa [e] using h
        have ih := ih hr
        unfold getA at ih ⊢
        by_cases e2 : q.1 = y
        · have : ¬ y = x := fun z => e (e2.trans z)
          rw [if_neg this, List.find?_cons_of_pos (by simp [e2]), List.find?_cons_of_pos (by simp [e2])]
        · rw [List.find?_cons_of_neg (by simp [e2]), List.find?_cons_of_neg (by simp [e2])]
          exact ih
  · rename_i h
    induction l with
    | nil =>
      rw [List.nil_append]
      unfold getA
      by_cases e : y = x
      · rw [if_pos e, List.find?_cons_of_pos (by simp [e])]
        rfl
      · rw [if_neg e, List.find?_cons_of_neg (by simp; exact fun z => e z.symm)]
    | cons q r ih =>
      have h2 : ¬ q.1 = x ∧ ¬ (r.any fun q => decide (q.1 = x)) = true := by
        rw [List.any_cons] at h
        by_cases e : q.1 = x
        · simp [e] at h
        · exact ⟨e, by simpa [e] using h⟩
      have ih := ih h2.2
      unfold getA at ih ⊢
      rw [List.cons_append]
      by_cases e2 : q.1 = y
      · have : ¬ y = x := fun z => h2.1 (e2.trans z)
        rw [if_neg this, List.find?_cons_of_pos (by simp [e2]), List.find?_cons_of_pos (by simp [e2])]
      · rw [List.find?_cons_of_neg (by simp [e2]), List.find?_cons_of_neg (by simp [e2])]
        exact ih
theorem putA_len (l : List (Str × α)) (x : Str) (v : α) : (putA l x v).length ≤ l.length + 1 := by
  unfold putA
  split
  · rw [List.length_map]
    omega
  · rw [List.length_append]
    exact Nat.le_refl _
theorem any_get (l : List (Str × α)) (x : Str) : (l.any fun q => decide (q.1 = x)) = (getA l x).isSome := by
  induction l with
  | nil => rfl
  | cons q r ih =>
    rw [List.any_cons]
    unfold getA at ih ⊢
    by_cases e : q.1 = x
    · rw [List.find?_cons_of_pos (by simp [e])]
      simp [e]
    · rw [List.find?_cons_of_neg (by simp [e]), ← ih]
      simp [e]
end

/-! ### rows -/
inductive Row where
  | open_ (p : Str) | lay (n p : Str) (z : Int) | copy (n o p : Str) | same (n o : Str) | add (n o : Str) | tell (n : Str) | give (p : Str) | fork (k : Int) | go (k : Int) | end_
  deriving DecidableEq
def encR : Row → PyData
  | .open_ p => .tuple [.str "open", .str p]
  | .lay n p z => .tuple [.str "lay", .str n, .str p, .int z]
  | .copy n o p => .tuple [.str "copy", .str n, .str o, .str p]
  | .same n o => .tuple [.str "same", .str n, .str o]
  | .add n o => .tuple [.str "add", .str n, .str o]
  | .tell n => .tuple [.str "tell", .str n]
  | .give p => .tuple [.str "give", .str p]
  | .fork k => .tuple [.str "fork", .int k]
  | .go k => .tuple [.str "go", .int k]
  | .end_ => .tuple [.str "end"]
def decR : PyData → Option Row
  | .tuple [.str w] => if w = "end" then some .end_ else none
  | .tuple [.str w, .str x] => if w = "open" then some (.open_ x) else if w = "tell" then some (.tell x) else if w = "give" then some (.give x) else none
  | .tuple [.str w, .int k] => if w = "fork" then some (.fork k) else if w = "go" then some (.go k) else none
  | .tuple [.str w, .str x, .str y] => if w = "same" then some (.same x y) else if w = "add" then some (.add x y) else none
  | .tuple [.str w, .str x, .str y, .int z] => if w = "lay" then some (.lay x y z) else none
  | .tuple [.str w, .str x, .str y, .str z] => if w = "copy" then some (.copy x y z) else none
  | _ => none
theorem decR_encR (r : Row) : decR (encR r) = some r := by
  cases r <;> rfl
theorem encR_decR {d : PyData} {r : Row} (h : decR d = some r) : d = encR r := by
  unfold decR at h
  split at h
  · split at h
    · rename_i e
      cases h
      rw [e]
      rfl
    · cases h
  · split at h
    · rename_i e
      cases h
      rw [e]
      rfl
    · split at h
      · rename_i e
        cases h
        rw [e]
        rfl
      · split at h
        · rename_i e
          cases h
          rw [e]
          rfl
        · cases h
  · split at h
    · rename_i e
      cases h
      rw [e]
      rfl
    · split at h
      · rename_i e
        cases h
        rw [e]
        rfl
      · cases h
  · split at h
    · rename_i e
      cases h
      rw [e]
      rfl
    · split at h
      · rename_i e
        cases h
        rw [e]
        rfl
      · cases h
  · split at h
    · rename_i e
      cases h
      rw [e]
      rfl
    · cases h
  · split at h
    · rename_i e
      cases h
      rw [e]
      rfl
    · cases h
  · cases h

/-! ### what goes wrong, what a row does -/
namespace SM
variable (S : SM)
def isUp (x : Str) : Bool := (getA S.opens x).isSome
def wPlot (x : Str) : Str := if S.isUp x then "" else "not open"
def wHolder (x : Str) : Str := if (getA S.held x).isSome then "" else "nothing"
def valOf (x : Str) : Option (Str × Int × Int) := (getA S.held x).bind fun i => S.vals[i]?
def wName (x : Str) : Str := match S.valOf x with
  | none => "nothing"
  | some v => if getA S.opens v.1 = some v.2.1 then "" else "gone"
def wOpen (x : Str) : Str := if S.isUp x then "open already" else match getA S.chains x with
  | some (_ :: c :: _) => if S.isUp c then "" else "not open"
  | _ => ""
def orW (a b : Str) : Str := if a = "" then b else a
def wrong : Row → Str
  | .open_ p => S.wOpen p
  | .lay _ p _ => S.wPlot p
  | .copy _ o p => orW (S.wName o) (S.wPlot p)
  | .same _ o => S.wHolder o
  | .add n o => orW (S.wName n) (S.wName o)
  | .tell n => S.wName n
  | .give p => S.wPlot p
  | .end_ => if S.opens = [] then "" else "left"
  | _ => ""
def put (n p : Str) (z : Int) : SM := { S with held := putA S.held n S.vals.length, vals := S.vals ++ [(p, (getA S.opens p).getD 0, z)] }
def chainOf (x : Str) : List Str := (getA S.chains x).getD []
def within (p : Str) : List (Str × Int) := S.opens.filter fun q => decide (p ∈ S.chainOf q.1)
def numOf (x : Str) : Int := match S.valOf x with
  | some v => v.2.2
  | none => 0
def change : Row → SM
  | .open_ p => { S with opens := putA S.opens p S.opened, opened := S.opened + 1 }
  | .lay n p z => S.put n p z
  | .copy n o p => S.put n p (S.numOf o)
  | .same n o => match getA S.held o with
    | some i => { S with held := putA S.held n i }
    | none => S
  | .add n o => match getA S.held n with
    | some i => { S with vals := S.vals.modify i fun v => (v.1, v.2.1, v.2.2 + S.numOf o) }
    | none => S
  | .tell n => { S with told := S.told ++ [S.numOf n] }
  | .give p => { S with given := S.given ++ (S.within p).reverse.map (·.2), opens := S.opens.filter fun q => decide (p ∉ S.chainOf q.1) }
  | _ => S
/-- a row done -/
def act (r : Row) : Str × SM := (S.wrong r, if S.wrong r = "" then S.change r else S)
end SM
/-- what holds of a Store's state at any time: each open plot once, with its chain -/
structure SOk (S : SM) : Prop where
  nd : (S.opens.map (·.1)).Nodup
  ch : ∀ q ∈ S.opens, (getA S.chains q.1).isSome = true
  he : ∀ q ∈ S.held, q.2 < S.vals.length
/-! ### plots -/
def optD : Option Str → PyData
  | none => .none
  | some x => .str x
def encP (q : Str × Option Str) : PyData := .tuple [.str q.1, optD q.2]
def encPs (ps : List (Str × Option Str)) : PyData := .list (ps.map encP)
/-- texts fit to be compared -/
def okP (q : Str × Option Str) : Bool := PyData.strOk q.1 && (match q.2 with | none => true | some o => PyData.strOk o)
/-- the plot and those around it, from the inside out -/
def outGo : List (Str × Option Str) → Option Str → List Str
  | [], _ => []
  | q :: r, w => if w = some q.1 then q.1 :: outGo r q.2 else outGo r w
def outM (ps : List (Str × Option Str)) (x : Str) : List Str := outGo ps.reverse (some x)
def SM0 (ps : List (Str × Option Str)) : SM := { chains := ps.map fun q => (q.1, outM ps q.1), opens := [], opened := 0, given := [], told := [], held := [], vals := [] }
end PL
namespace PL
open PySem L2

/-! ### a Store's cells, changed one at a time -/
structure Moved (H H' : Hp) (fp fp' : List Addr) : Prop where
  keep : ∀ b o, H b = some o → b ∉ fp → H' b = some o
  live : ∀ b, H b ≠ none → H' b ≠ none
  newc : ∀ b ∈ fp', b ∈ fp ∨ H b = none
  nd : fp'.Nodup
theorem Moved.trans {H H1 H2 : Hp} {f f1 f2 : List Addr} (a : Moved H H1 f f1) (b : Moved H1 H2 f1 f2) : Moved H H2 f f2 := by
  refine ⟨fun c o h n => b.keep c o (a.keep c o h n) fun m => ?_, fun c h => b.live c (a.live c h), fun c m => ?_, b.nd⟩
  · rcases a.newc c m with m2 | m2
    · exact n m2
    · rw [m2] at h
      cases h
  · rcases b.newc c m with m2 | m2
    · exact a.newc c m2
    · right
      cases q : H c with
      | none => rfl
      | some o => exact absurd m2 (a.live c (by rw [q]; exact fun z => nomatch z))
theorem Moved.refl {H : Hp} {f : List Addr} (nd : f.Nodup) : Moved H H f f := ⟨fun _ _ h _ => h, fun _ h => h, fun _ m => .inl m, nd⟩
/-- one cell of fp is written -/
theorem Moved.wr {H : Hp} {f : List Addr} {c : Addr} {o : HO} (nd : f.Nodup) (m : c ∈ f) : Moved H (upd H c o) f f :=
  ⟨fun b u h n => by rw [upd_ne (fun (e : b = c) => n (e ▸ m))]; exact h, fun b h => by
    by_cases e : b = c
    · rw [e, upd_same]
      exact fun z => nomatch z
    · rw [upd_ne e]
      exact h, fun _ m => .inl m, nd⟩
theorem ListsAt.wr {H : Hp} {c : Addr} {o : HO} : ∀ {as : List Addr} {xs : List (List Str)}, ListsAt H as xs → (∀ a ∈ as, a ≠ c) → ListsAt (upd H c o) as xs
  | _, _, .nil, _ => .nil
  | _, _, .cons h t, n => .cons (by rw [upd_ne (n _ (List.mem_cons_self ..))]; exact h) (t.wr fun a m => n a (List.mem_cons_of_mem _ m))
theorem ValsAt.wr {H : Hp} {CV c : Addr} {o : HO} : ∀ {as : List (Addr × Addr)} {vs : List (Str × Int × Int)}, ValsAt H CV as vs → (∀ a ∈ as, a.1 ≠ c ∧ a.2 ≠ c) → ValsAt (upd H c o) CV as vs
  | _, _, .nil, _ => .nil
  | _, _, .cons h1 h2 t, n => .cons (by rw [upd_ne (n _ (List.mem_cons_self ..)).1]; exact h1) (by rw [upd_ne (n _ (List.mem_cons_self ..)).2]; exact h2) (t.wr fun a m => n a (List.mem_cons_of_mem _ m))
theorem ValsAt.snoc {H : Hp} {CV : Addr} {a : Addr × Addr} {v : Str × Int × Int} (h1 : H a.1 = some (.ins CV a.2 (vaF v))) (h2 : H a.2 = some (.own a.1)) : ∀ {as : List (Addr × Addr)} {vs : List (Str × Int × Int)}, ValsAt H CV as vs → ValsAt H CV (as ++ [a]) (vs ++ [v])
  | _, _, .nil => .cons h1 h2 .nil
  | _, _, .cons g1 g2 t => .cons g1 g2 (t.snoc h1 h2)
/-- the i-th value is written -/
theorem ValsAt.set {H : Hp} {CV : Addr} : ∀ {as : List (Addr × Addr)} {vs : List (Str × Int × Int)} {i : Nat} {a : Addr × Addr} {f : Str × Int × Int → Str × Int × Int} {v : Str × Int × Int}, ValsAt H CV as vs → as[i]? = some a → vs[i]? = some v → (as.map (·.1) ++ as.map (·.2)).Nodup → ValsAt (upd H a.1 (.ins CV a.2 (vaF (f v)))) CV as (vs.modify i f)
  | _, _, _, _, _, _, .nil, e, _, _ => by simp at e
  | a0 :: as, v0 :: vs, 0, _, f, _, .cons h1 h2 t, e, e2, nd => by
    simp at e e2
    subst e e2
    have n1 : ∀ b ∈ as, b.1 ≠ a0.1 ∧ b.2 ≠ a0.1 := fun b m => by
      rw [List.map_cons, List.cons_append, List.nodup_cons] at nd
      refine ⟨fun q => nd.1 (List.mem_append_left _ (q ▸ List.mem_map_of_mem m)), fun q => nd.1 (List.mem_append_right _ (List.mem_cons_of_mem _ (q ▸ List.mem_map_of_mem m)))⟩
    have n2 : a0.2 ≠ a0.1 := fun q => by
      rw [List.map_cons, List.cons_append, List.nodup_cons] at nd
      exact nd.1 (List.mem_append_right _ (by rw [List.map_cons, q]; exact List.mem_cons_self ..))
    exact .cons upd_same (by rw [upd_ne n2]; exact h2) (t.wr n1)
  | a0 :: as, v0 :: vs, i + 1, a, f, v, .cons h1 h2 t, e, e2, nd => by
    have e' : as[i]? = some a := by simpa using e
    have e2' : vs[i]? = some v := by simpa using e2
    have ma : a ∈ as := List.mem_of_getElem? e'
    have nd' : (as.map (·.1) ++ as.map (·.2)).Nodup := by
      rw [List.map_cons, List.cons_append, List.nodup_cons] at nd
      have h := nd.2
      rw [List.map_cons] at h
      exact h.sublist (List.Sublist.append (List.Sublist.refl _) (List.sublist_cons_self ..))
    have n1 : a0.1 ≠ a.1 := fun q => by
      rw [List.map_cons, List.cons_append, List.nodup_cons] at nd
      exact nd.1 (List.mem_append_left _ (q ▸ List.mem_map_of_mem ma))
    have n2 : a0.2 ≠ a.1 := fun q => by
      rw [List.map_cons, List.cons_append, List.nodup_cons, List.map_cons] at nd
      have h := List.nodup_append.mp nd.2
      exact h.2.2 a.1 (List.mem_map_of_mem ma) a0.2 (List.mem_cons_self ..) q.symm
    have g := ValsAt.set (f := f) t e' e2' nd'
    rw [List.modify_succ_cons]
    exact .cons (by rw [upd_ne n1]; exact h1) (by rw [upd_ne n2]; exact h2) g
/-- that the cells are apart, one by one -/
structure Apart (p dx at_ ag ac ao ah : Addr) (cas : List Addr) (vas : List (Addr × Addr)) : Prop where
  h : (p ≠ dx ∧ p ≠ at_ ∧ p ≠ ag ∧ p ≠ ac ∧ p ≠ ao ∧ p ≠ ah) ∧ (dx ≠ at_ ∧ dx ≠ ag ∧ dx ≠ ac ∧ dx ≠ ao ∧ dx ≠ ah) ∧ (at_ ≠ ag ∧ at_ ≠ ac ∧ at_ ≠ ao ∧ at_ ≠ ah) ∧ (ag ≠ ac ∧ ag ≠ ao ∧ ag ≠ ah) ∧ (ac ≠ ao ∧ ac ≠ ah) ∧ ao ≠ ah
  c : ∀ a ∈ cas, a ≠ p ∧ a ≠ dx ∧ a ≠ at_ ∧ a ≠ ag ∧ a ≠ ac ∧ a ≠ ao ∧ a ≠ ah
  v : ∀ a ∈ vas, (a.1 ≠ p ∧ a.1 ≠ dx ∧ a.1 ≠ at_ ∧ a.1 ≠ ag ∧ a.1 ≠ ac ∧ a.1 ≠ ao ∧ a.1 ≠ ah) ∧ (a.2 ≠ p ∧ a.2 ≠ dx ∧ a.2 ≠ at_ ∧ a.2 ≠ ag ∧ a.2 ≠ ac ∧ a.2 ≠ ao ∧ a.2 ≠ ah)
  cv : ∀ a ∈ cas, ∀ b ∈ vas, a ≠ b.1 ∧ a ≠ b.2
  vv : (vas.map (·.1) ++ vas.map (·.2)).Nodup
theorem apart {p dx at_ ag ac ao ah : Addr} {cas : List Addr} {vas : List (Addr × Addr)} (nd : (stFp p dx at_ ag ac ao ah cas vas).Nodup) : Apart p dx at_ ag ac ao ah cas vas := by
  unfold stFp at nd
  simp only [List.nodup_cons, List.mem_cons, List.mem_append, not_or] at nd
  obtain ⟨⟨a1, a2, a3, a4, a5, a6, a7, a8, a9⟩, ⟨b1, b2, b3, b4, b5, b6, b7, b8⟩, ⟨c1, c2, c3, c4, c5, c6, c7⟩, ⟨d1, d2, d3, d4, d5, d6⟩, ⟨e1, e2, e3, e4, e5⟩, ⟨f1, f2, f3, f4⟩, ⟨g1, g2, g3⟩, nd⟩ := nd
  have nd2 := List.nodup_append.mp nd
  refine ⟨⟨⟨a1, a2, a3, a4, a5, a6⟩, ⟨b1, b2, b3, b4, b5⟩, ⟨c1, c2, c3, c4⟩, ⟨d1, d2, d3⟩, ⟨e1, e2⟩, f1⟩, fun a m => ?_, fun a m => ⟨?_, ?_⟩, fun a m b mb => ?_, nd2.2.1⟩
  · refine ⟨?_, ?_, ?_, ?_, ?_, ?_, ?_⟩ <;> (intro q; subst q; contradiction)
  · have m1 := List.mem_map_of_mem (f := (·.1)) m
    refine ⟨?_, ?_, ?_, ?_, ?_, ?_, ?_⟩ <;> (intro q; rw [q] at m1; contradiction)
  · have m1 := List.mem_map_of_mem (f := (·.2)) m
    refine ⟨?_, ?_, ?_, ?_, ?_, ?_, ?_⟩ <;> (intro q; rw [q] at m1; contradiction)
  · exact ⟨fun q => nd2.2.2 a m b.1 (List.mem_append_left _ (List.mem_map_of_mem mb)) q, fun q => nd2.2.2 a m b.2 (List.mem_append_right _ (List.mem_map_of_mem mb)) q⟩
section
variable {H : Hp} {C CV p dx at_ ag ac ao ah : Addr} {cas : List Addr} {vas : List (Addr × Addr)} {S : SM}
theorem StAt.setO (h : StAt H C CV p dx at_ ag ac ao ah cas vas S) (A : Apart p dx at_ ag ac ao ah cas vas) (os : List (Str × Int)) : StAt (upd H ao (.dK (kvs V.int os))) C CV p dx at_ ag ac ao ah cas vas { S with opens := os } := by
  obtain ⟨⟨_, _, _, _, q1, _⟩, ⟨_, _, _, q2, _⟩, ⟨_, _, q3, _⟩, ⟨_, q4, _⟩, ⟨q5, _⟩, q6⟩ := A.h
  exact ⟨by rw [upd_ne q1]; exact h.hp, by rw [upd_ne q2]; exact h.hdx, by rw [upd_ne q3]; exact h.ht, by rw [upd_ne q4]; exact h.hg, by rw [upd_ne q5]; exact h.hc, h.hcs.wr fun a m => (A.c a m).2.2.2.2.2.1, upd_same, by rw [upd_ne (fun e => q6 e.symm)]; exact h.hh, h.hv.wr fun a m => ⟨(A.v a m).1.2.2.2.2.2.1, (A.v a m).2.2.2.2.2.2.1⟩, h.hr⟩
theorem StAt.setH (h : StAt H C CV p dx at_ ag ac ao ah cas vas S) (A : Apart p dx at_ ag ac ao ah cas vas) (hs : List (Str × Nat)) (hr : ∀ q ∈ hs, q.2 < S.vals.length) : StAt (upd H ah (.dK (hs.map fun q => (kS q.1, V.ref ((vas.map (·.1)).getD q.2 0))))) C CV p dx at_ ag ac ao ah cas vas { S with held := hs } := by
  obtain ⟨⟨_, _, _, _, _, q1⟩, ⟨_, _, _, _, q2⟩, ⟨_, _, _, q3⟩, ⟨_, _, q4⟩, ⟨_, q5⟩, q6⟩ := A.h
  exact ⟨by rw [upd_ne q1]; exact h.hp, by rw [upd_ne q2]; exact h.hdx, by rw [upd_ne q3]; exact h.ht, by rw [upd_ne q4]; exact h.hg, by rw [upd_ne q5]; exact h.hc, h.hcs.wr fun a m => (A.c a m).2.2.2.2.2.2, by rw [upd_ne q6]; exact h.ho, upd_same, h.hv.wr fun a m => ⟨(A.v a m).1.2.2.2.2.2.2, (A.v a m).2.2.2.2.2.2.2⟩, hr⟩
theorem StAt.setP (h : StAt H C CV p dx at_ ag ac ao ah cas vas S) (A : Apart p dx at_ ag ac ao ah cas vas) (n : Int) : StAt (upd H p (.ins C dx (stF at_ ag ac ao ah n))) C CV p dx at_ ag ac ao ah cas vas { S with opened := n } := by
  obtain ⟨⟨q1, q2, q3, q4, q5, q6⟩, _⟩ := A.h
  exact ⟨upd_same, by rw [upd_ne q1.symm]; exact h.hdx, by rw [upd_ne q2.symm]; exact h.ht, by rw [upd_ne q3.symm]; exact h.hg, by rw [upd_ne q4.symm]; exact h.hc, h.hcs.wr fun a m => (A.c a m).1, by rw [upd_ne q5.symm]; exact h.ho, by rw [upd_ne q6.symm]; exact h.hh, h.hv.wr fun a m => ⟨(A.v a m).1.1, (A.v a m).2.1⟩, h.hr⟩
theorem StAt.setT (h : StAt H C CV p dx at_ ag ac ao ah cas vas S) (A : Apart p dx at_ ag ac ao ah cas vas) (ts : List Int) : StAt (upd H at_ (.lst (ts.map V.int))) C CV p dx at_ ag ac ao ah cas vas { S with told := ts } := by
  obtain ⟨⟨_, q1, _⟩, ⟨q2, _⟩, ⟨q3, q4, q5, q6⟩, _⟩ := A.h
  exact ⟨by rw [upd_ne q1]; exact h.hp, by rw [upd_ne q2]; exact h.hdx, upd_same, by rw [upd_ne q3.symm]; exact h.hg, by rw [upd_ne q4.symm]; exact h.hc, h.hcs.wr fun a m => (A.c a m).2.2.1, by rw [upd_ne q5.symm]; exact h.ho, by rw [upd_ne q6.symm]; exact h.hh, h.hv.wr fun a m => ⟨(A.v a m).1.2.2.1, (A.v a m).2.2.2.1⟩, h.hr⟩
theorem StAt.setG (h : StAt H C CV p dx at_ ag ac ao ah cas vas S) (A : Apart p dx at_ ag ac ao ah cas vas) (gs : List Int) : StAt (upd H ag (.lst (gs.map V.int))) C CV p dx at_ ag ac ao ah cas vas { S with given := gs } := by
  obtain ⟨⟨_, _, q1, _⟩, ⟨_, q2, _⟩, ⟨q3, _⟩, ⟨q4, q5, q6⟩, _⟩ := A.h
  exact ⟨by rw [upd_ne q1]; exact h.hp, by rw [upd_ne q2]; exact h.hdx, by rw [upd_ne q3]; exact h.ht, upd_same, by rw [upd_ne q4.symm]; exact h.hc, h.hcs.wr fun a m => (A.c a m).2.2.2.1, by rw [upd_ne q5.symm]; exact h.ho, by rw [upd_ne q6.symm]; exact h.hh, h.hv.wr fun a m => ⟨(A.v a m).1.2.2.2.1, (A.v a m).2.2.2.2.1⟩, h.hr⟩
theorem StAt.setV (h : StAt H C CV p dx at_ ag ac ao ah cas vas S) (A : Apart p dx at_ ag ac ao ah cas vas) {i : Nat} {a : Addr × Addr} {v : Str × Int × Int} (f : Str × Int × Int → Str × Int × Int) (ha : vas[i]? = some a) (hv : S.vals[i]? = some v) : StAt (upd H a.1 (.ins CV a.2 (vaF (f v)))) C CV p dx at_ ag ac ao ah cas vas { S with vals := S.vals.modify i f } := by
  have m : a ∈ vas := List.mem_of_getElem? ha
  obtain ⟨q1, q2, q3, q4, q5, q6, q7⟩ := (A.v a m).1
  exact ⟨by rw [upd_ne q1.symm]; exact h.hp, by rw [upd_ne q2.symm]; exact h.hdx, by rw [upd_ne q3.symm]; exact h.ht, by rw [upd_ne q4.symm]; exact h.hg, by rw [upd_ne q5.symm]; exact h.hc, h.hcs.wr fun b mb => (A.cv b mb a m).1, by rw [upd_ne q6.symm]; exact h.ho, by rw [upd_ne q7.symm]; exact h.hh, h.hv.set ha hv A.vv, fun q mq => by rw [List.length_modify]; exact h.hr q mq⟩
/-- a new object aside -/
theorem StAt.new (h : StAt H C CV p dx at_ ag ac ao ah cas vas S) {b : Addr} {o : HO} (hb : H b = none) : StAt (upd H b o) C CV p dx at_ ag ac ao ah cas vas S := by
  have nz : ∀ {c : Addr} {u : HO}, H c = some u → (upd H b o) c = some u := fun hc => by rw [upd_ne (ne_of_none hc hb)]; exact hc
  have lz : ∀ {as : List Addr} {xs : List (List Str)}, ListsAt H as xs → ListsAt (L2.upd H b o) as xs := fun l => by
    induction l with
    | nil => exact .nil
    | cons h _ ih => exact .cons (nz h) ih
  have vz : ∀ {as : List (Addr × Addr)} {vs : List (Str × Int × Int)}, ValsAt H CV as vs → ValsAt (L2.upd H b o) CV as vs := fun l => by
    induction l with
    | nil => exact .nil
    | cons h g _ ih => exact .cons (nz h) (nz g) ih
  exact ⟨nz h.hp, nz h.hdx, nz h.ht, nz h.hg, nz h.hc, lz h.hcs, nz h.ho, nz h.hh, vz h.hv, h.hr⟩
theorem valsLen (h : StAt H C CV p dx at_ ag ac ao ah cas vas S) : vas.length = S.vals.length := by
  have : ∀ {as : List (Addr × Addr)} {vs : List (Str × Int × Int)}, ValsAt H CV as vs → as.length = vs.length := fun l => by
    induction l with
    | nil => rfl
    | cons _ _ _ ih => rw [List.length_cons, List.length_cons, ih]
  exact this h.hv
/-- a new value, no name's yet -/
theorem StAt.addV (h : StAt H C CV p dx at_ ag ac ao ah cas vas S) {a : Addr × Addr} {v : Str × Int × Int} (h1 : H a.1 = some (.ins CV a.2 (vaF v))) (h2 : H a.2 = some (.own a.1)) : StAt H C CV p dx at_ ag ac ao ah cas (vas ++ [a]) { S with vals := S.vals ++ [v] } := by
  refine ⟨h.hp, h.hdx, h.ht, h.hg, h.hc, h.hcs, h.ho, ?_, h.hv.snoc h1 h2, fun q m => ?_⟩
  · have : (S.held.map fun q => (kS q.1, V.ref (((vas ++ [a]).map (·.1)).getD q.2 0))) = S.held.map fun q => (kS q.1, V.ref ((vas.map (·.1)).getD q.2 0)) := by
      apply List.map_congr_left
      intro q m
      have hq := h.hr q m
      rw [← valsLen h] at hq
      have : ((vas ++ [a]).map (·.1)).getD q.2 0 = (vas.map (·.1)).getD q.2 0 := by
        rw [List.getD_eq_getElem?_getD, List.getD_eq_getElem?_getD, List.map_append, List.getElem?_append_left (by rw [List.length_map]; exact hq)]
      rw [this]
    rw [this]
    exact h.hh
  · rw [List.length_append]
    have := h.hr q m
    omega
end
end PL
namespace PL
open PySem L2 PySem.Spec PyProof.Rows

def hidL (O : Hid) (fp : List Addr) : Hid := fun a => O a || decide (a ∈ fp)
theorem hidL_mem {O : Hid} {fp : List Addr} {a : Addr} (m : a ∈ fp) : hidL O fp a = true := by unfold hidL; simp [m]
theorem hidL_of {O : Hid} {fp : List Addr} {a : Addr} (h : O a = true) : hidL O fp a = true := by unfold hidL; rw [h]; rfl
theorem hidL_or {O : Hid} {fp : List Addr} {a : Addr} (h : hidL O fp a = true) : O a = true ∨ a ∈ fp := by
  unfold hidL at h
  simpa using h
section
variable {K : PySem.W.Frag} {base : Hp} {O0 O : Hid} {σ : L2.St} {H H' : Hp} {env : PL.Env}
/-- what is seen stays seen when fp' is hidden besides, and all but fp stays -/
theorem vis_moved {fp fp' : List Addr} (keep : ∀ b o, H b = some o → b ∉ fp → H' b = some o) (newc : ∀ b ∈ fp', b ∈ fp ∨ H b = none) (hf : ∀ a ∈ fp, O a = true) : PL.Ex (vis O H) (vis (hidL O fp') H') := fun b o hb => by
  have h1 := vis_le b o hb
  have nb : O b = false := by
    cases z : O b with
    | false => rfl
    | true =>
      unfold vis at hb
      rw [if_pos z] at hb
      cases hb
  have nf : b ∉ fp := fun m => by rw [hf b m] at nb; cases nb
  refine vis_at ?_ (keep b o h1 nf)
  cases z : hidL O fp' b with
  | false => rfl
  | true =>
    rcases hidL_or z with z | z
    · rw [z] at nb; cases nb
    · rcases newc b z with m | m
      · exact absurd m nf
      · rw [m] at h1; cases h1
/-- a new object becomes hidden, slot i holds it -/
theorem Sat.setOb {i : Nat} {v : V} {fp : List Addr} {s : ObS} (S : Sat K base O0 O σ H env) (e : PL.Ex H H') (fr : ∀ b ∈ fp, H b = none) (r : ObR K v fp H' (vis (hidL O fp) H') s) (hi : i < env.length) : Sat K base O0 (hidL O fp) (σ.set i (some v)) H' (env.set i (.ob s)) := by
  obtain ⟨fps, S⟩ := S
  have bn : ∀ b ∈ fp, base b = none := fun b m => S.ex.free (fr b m)
  have np : ∀ j, ∀ a ∈ fps j, a ∉ fp := fun j a m q => S.all a (S.cells j a m).1 (fr a q)
  refine ⟨_, S.put (O' := hidL O fp) (H' := H') (fp := fp) (S.ex.trans e) (vis_moved (fp := []) (fun b o hb _ => e b o hb) (fun b m => .inr (fr b m)) (fun a m => nomatch m)) (fun a q => ?_) (fun a q => hidL_of (S.sub a q)) (fun a q z => ?_) (fun j n a m => ⟨keeps (S.all a (S.cells j a m).1) e, hidL_of (S.cells j a m).1, np j a m⟩) ⟨v, rfl, fun a m => ⟨hidL_mem m, bn a m⟩, r⟩ hi⟩
  · rcases hidL_or q with q | q
    · exact S.new a q
    · exact .inr (bn a q)
  · rcases hidL_or q with q | q
    · exact S.all a q (e.free z)
    · exact r.2.1 a q z
/-- the object of slot i is changed -/
theorem Sat.mutOb {i : Nat} {s : ObS} (S : Sat K base O0 O σ H env) (hi : env[i]? = some (.ob s)) : ∃ v fp, σ[i]? = some (some v) ∧ (∀ a ∈ fp, O a = true ∧ base a = none) ∧ ObR K v fp H (vis O H) s ∧
    ∀ (H' : Hp) (fp' : List Addr) (s' : ObS), Moved H H' fp fp' → ObR K v fp' H' (vis (hidL O fp') H') s' → PL.Ex (vis O H) (vis (hidL O fp') H') ∧ Sat K base O0 (hidL O fp') σ H' (env.set i (.ob s')) := by
  obtain ⟨fps, S⟩ := S
  have hil : i < env.length := (List.getElem?_eq_some_iff.mp hi).1
  have hs : i < σ.length := by rw [S.len]; exact hil
  obtain ⟨v, hx, oa, r⟩ := S.sl i _ _ (List.getElem?_eq_getElem hs) hi
  have hx' : σ[i]? = some (some v) := by rw [List.getElem?_eq_getElem hs, hx]
  refine ⟨v, fps i, hx', oa, r, fun H' fp' s' M r' => ?_⟩
  have ev := vis_moved (O := O) M.keep M.newc (fun a m => (oa a m).1)
  have es_ : σ.set i (some v) = σ := by
    apply List.ext_getElem?
    intro k
    by_cases q : i = k
    · subst q
      rw [List.getElem?_set_self hs, hx']
    · rw [List.getElem?_set_ne q]
  have g := S.put (O' := hidL O fp') (H' := H') (fp := fp') (i := i) (x := some v) (s := .ob s') (fun b o hb => M.keep b o (S.ex b o hb) fun m => by rw [(oa b m).2] at hb; cases hb) ev (fun a q => by
      rcases hidL_or q with q | q
      · exact S.new a q
      · rcases M.newc a q with m | m
        · exact .inr (oa a m).2
        · exact .inr (S.ex.free m)) (fun a q => hidL_of (S.sub a q)) (fun a q => by
      rcases hidL_or q with q | q
      · exact M.live a (S.all a q)
      · exact r'.2.1 a q)
    (fun j n a m => by
      have nf : a ∉ fps i := fun q => S.sep j i a n m q
      have la := S.all a (S.cells j a m).1
      refine ⟨?_, hidL_of (S.cells j a m).1, fun q => ?_⟩
      · cases z : H a with
        | none => exact absurd z la
        | some o => exact M.keep a o z nf
      · rcases M.newc a q with z | z
        · exact nf z
        · exact la z) ⟨v, rfl, fun a m => ⟨hidL_mem m, (by
      rcases M.newc a m with z | z
      · exact (oa a z).2
      · exact S.ex.free z)⟩, r'⟩ hil
  rw [es_] at g
  exact ⟨ev, _, g⟩
/-! ### Stores -/
theorem StAt.sub {H H' : Hp} {C CV p dx at_ ag ac ao ah : Addr} {cas : List Addr} {vas : List (Addr × Addr)} {S : SM} (h : StAt H C CV p dx at_ ag ac ao ah cas vas S) (m : ∀ a ∈ stFp p dx at_ ag ac ao ah cas vas, ∀ o, H a = some o → H' a = some o) : StAt H' C CV p dx at_ ag ac ao ah cas vas S := by
  unfold stFp at m
  have lz : ∀ {as : List Addr} {xs : List (List Str)}, ListsAt H as xs → (∀ a ∈ as, ∀ o, H a = some o → H' a = some o) → ListsAt H' as xs := fun l => by
    induction l with
    | nil => exact fun _ => .nil
    | cons g _ ih => exact fun z => .cons (z _ (List.mem_cons_self ..) _ g) (ih fun a m => z a (List.mem_cons_of_mem _ m))
  have vz : ∀ {as : List (Addr × Addr)} {vs : List (Str × Int × Int)}, ValsAt H CV as vs → (∀ a ∈ as, (∀ o, H a.1 = some o → H' a.1 = some o) ∧ ∀ o, H a.2 = some o → H' a.2 = some o) → ValsAt H' CV as vs := fun l => by
    induction l with
    | nil => exact fun _ => .nil
    | cons g k _ ih => exact fun z => .cons ((z _ (List.mem_cons_self ..)).1 _ g) ((z _ (List.mem_cons_self ..)).2 _ k) (ih fun a m => z a (List.mem_cons_of_mem _ m))
  refine ⟨m p (by simp) _ h.hp, m dx (by simp) _ h.hdx, m at_ (by simp) _ h.ht, m ag (by simp) _ h.hg, m ac (by simp) _ h.hc, lz h.hcs fun a ma => m a (by simp [ma]), m ao (by simp) _ h.ho, m ah (by simp) _ h.hh, vz h.hv fun a ma => ⟨m a.1 ?_, m a.2 ?_⟩, h.hr⟩
  · simp only [List.mem_cons, List.mem_append]
    exact .inr (.inr (.inr (.inr (.inr (.inr (.inr (.inr (.inl (List.mem_map_of_mem ma)))))))))
  · simp only [List.mem_cons, List.mem_append]
    exact .inr (.inr (.inr (.inr (.inr (.inr (.inr (.inr (.inr (List.mem_map_of_mem ma)))))))))
theorem StAt.live {H : Hp} {C CV p dx at_ ag ac ao ah : Addr} {cas : List Addr} {vas : List (Addr × Addr)} {S : SM} (h : StAt H C CV p dx at_ ag ac ao ah cas vas S) : ∀ a ∈ stFp p dx at_ ag ac ao ah cas vas, H a ≠ none := fun b m => by
  have hb : ∃ o, H b = some o := by
    unfold stFp at m
    simp only [List.mem_cons, List.mem_append, List.mem_map] at m
    rcases m with rfl | rfl | rfl | rfl | rfl | rfl | rfl | m | ⟨c, m, rfl⟩ | ⟨c, m, rfl⟩
    · exact ⟨_, h.hp⟩
    · exact ⟨_, h.hdx⟩
    · exact ⟨_, h.ht⟩
    · exact ⟨_, h.hg⟩
    · exact ⟨_, h.hc⟩
    · exact ⟨_, h.ho⟩
    · exact ⟨_, h.hh⟩
    · have : ∀ {as : List Addr} {xs : List (List Str)}, ListsAt H as xs → b ∈ as → ∃ o, H b = some o := fun l => by
        induction l with
        | nil => exact fun z => nomatch z
        | cons g _ ih => exact fun z => (List.mem_cons.mp z).elim (fun e => ⟨_, e ▸ g⟩) ih
      exact this h.hcs m
    · have : ∀ {as : List (Addr × Addr)} {vs : List (Str × Int × Int)}, ValsAt H CV as vs → c ∈ as → ∃ o, H c.1 = some o := fun l => by
        induction l with
        | nil => exact fun z => nomatch z
        | cons g _ _ ih => exact fun z => (List.mem_cons.mp z).elim (fun e => ⟨_, e ▸ g⟩) ih
      exact this h.hv m
    · have : ∀ {as : List (Addr × Addr)} {vs : List (Str × Int × Int)}, ValsAt H CV as vs → c ∈ as → ∃ o, H c.2 = some o := fun l => by
        induction l with
        | nil => exact fun z => nomatch z
        | cons _ g _ ih => exact fun z => (List.mem_cons.mp z).elim (fun e => ⟨_, e ▸ g⟩) ih
      exact this h.hv m
  obtain ⟨o, hb⟩ := hb
  rw [hb]
  exact fun z => nomatch z
theorem obr_st {B : Hp} {C CV p dx at_ ag ac ao ah : Addr} {cas : List Addr} {vas : List (Addr × Addr)} {S : SM} (h : StAt H C CV p dx at_ ag ac ao ah cas vas S) (nd : (stFp p dx at_ ag ac ao ah cas vas).Nodup) : ObR K (.ref p) (stFp p dx at_ ag ac ao ah cas vas) H B (.st C CV S) :=
  ⟨nd, h.live, p, dx, at_, ag, ac, ao, ah, cas, vas, rfl, rfl, h.sub fun a m o ho => rst_at m ho⟩
theorem st_obr {B : Hp} {v : V} {fp : List Addr} {C CV : Addr} {S : SM} (r : ObR K v fp H B (.st C CV S)) : ∃ p dx at_ ag ac ao ah cas vas, v = .ref p ∧ fp = stFp p dx at_ ag ac ao ah cas vas ∧ StAt H C CV p dx at_ ag ac ao ah cas vas S ∧ (stFp p dx at_ ag ac ao ah cas vas).Nodup := by
  obtain ⟨nd, _, p, dx, at_, ag, ac, ao, ah, cas, vas, rfl, rfl, h⟩ := r
  exact ⟨p, dx, at_, ag, ac, ao, ah, cas, vas, rfl, rfl, h.sub fun a m o ho => (rst_some ho).2, nd⟩
end
end PL
namespace PL
open PySem L2 PySem.Spec PyProof.Rows
/-! ### plots as data -/
def decP : PyData → Option (Str × Option Str)
  | .tuple [.str n, .none] => some (n, none)
  | .tuple [.str n, .str o] => some (n, some o)
  | _ => none
def decL {α : Type} (f : PyData → Option α) : List PyData → Option (List α)
  | [] => some []
  | d :: ds => (f d).bind fun x => (decL f ds).map (x :: ·)
def decPs : PyData → Option (List (Str × Option Str))
  | .list ds => decL decP ds
  | _ => none
theorem decP_enc (q : Str × Option Str) : decP (encP q) = some q := by
  obtain ⟨n, o⟩ := q
  cases o <;> rfl
theorem enc_decP {d : PyData} {q : Str × Option Str} (h : decP d = some q) : d = encP q := by
  unfold decP at h
  split at h
  · cases h
    rfl
  · cases h
    rfl
  · cases h
theorem decL_map {α : Type} {f : PyData → Option α} {g : α → PyData} (h : ∀ a, f (g a) = some a) : ∀ l : List α, decL f (l.map g) = some l
  | [] => rfl
  | a :: l => by
    show (f (g a)).bind (fun x => (decL f (l.map g)).map (x :: ·)) = _
    rw [h, decL_map h l]
    rfl
theorem decL_inv {α : Type} {f : PyData → Option α} {g : α → PyData} (h : ∀ d a, f d = some a → d = g a) : ∀ {ds : List PyData} {l : List α}, decL f ds = some l → ds = l.map g
  | [], l, e => by cases e; rfl
  | d :: ds, l, e => by
    have e' : (f d).bind (fun x => (decL f ds).map (x :: ·)) = some l := e
    cases k : f d with
    | none => rw [k] at e'; cases e'
    | some a =>
      cases k2 : decL f ds with
      | none => rw [k, k2] at e'; cases e'
      | some r =>
        rw [k, k2] at e'
        cases e'
        rw [h d a k, decL_inv h k2]
        rfl
theorem decPs_enc (ps : List (Str × Option Str)) : decPs (encPs ps) = some ps := decL_map decP_enc ps
theorem enc_decPs {d : PyData} {ps : List (Str × Option Str)} (h : decPs d = some ps) : d = encPs ps := by
  unfold decPs at h
  split at h
  · exact congrArg PyData.list (decL_inv (fun _ _ => enc_decP) h)
  · cases h
/-! ### sorted of ints, list(range(n)) -/
def asInts : List PyData → Option (List Int) := decL asI
theorem asInts_inv {ds : List PyData} {l : List Int} (h : asInts ds = some l) : ds = l.map PyData.int := decL_inv (fun d a e => by
  unfold asI at e
  split at e
  · cases e; rfl
  · cases e) h
theorem rp_ints {K : PySem.W.Frag} {H : Hp} : ∀ {ws : List V} {l : List Int}, RpAll K H ws (l.map PyData.int) → ws = l.map V.int
  | ws, [], h => by
    cases h
    rfl
  | ws, z :: l, h => by
    cases h with
    | cons r t =>
      cases r
      rw [rp_ints t]
      rfl
def nSorted (f : PL.Env → Option (List PyData)) : PL.Env → Option (List PyData) := fun env => (f env).bind fun
  | [d] => (asLS d).bind fun ds => (asInts ds).map fun ns => (ns.mergeSort (fun a b => decide (a ≤ b))).map PyData.int
  | _ => none
theorem sorted_one {a b : List Int} (p : a.Perm b) (ha : a.Pairwise (· ≤ ·)) (hb : b.Pairwise (· ≤ ·)) : a = b :=
  List.Perm.eq_of_pairwise (fun x y _ _ h1 h2 => Int.le_antisymm h1 h2) ha hb p
section
variable {K : PySem.W.Frag} {X : Cx} {e a : Expr} {es : List Expr} {te : TE} {tr : TA} {f : PL.Env → Option PyData} {fr : PL.Env → Option (List PyData)} {p pos : Pos}
theorem ms_sorted (ns : List Int) : (ns.mergeSort (fun a b => decide (a ≤ b))).Pairwise (· ≤ ·) := by
  have h := List.pairwise_mergeSort (le := fun (a b : Int) => decide (a ≤ b)) (by intro a b c; simp; omega) (by intro a b; simp; omega) ns
  exact h.imp (by intro a b; simp)
theorem den_sorted {K : PySem.W.Frag} {tr : TA} {fr : PL.Env → Option (List PyData)} (h : DenA K tr fr) : DenN K (tCB (rSortedI K) tr) (nSorted fr) := by
  intro base O0 O σ H env ds S e Q q
  unfold nSorted at e
  cases k1 : fr env with
  | none => simp [k1] at e
  | some xs =>
    simp only [k1, Option.bind_some] at e
    split at e
    · rename_i d
      cases k2 : asLS d with
      | none => simp [k2] at e
      | some es =>
        simp only [k2, Option.bind_some] at e
        cases k3 : asInts es with
        | none => simp [k3] at e
        | some ns =>
          simp only [k3, Option.map_some] at e
          cases e
          refine h base O0 O σ H env _ S k1 _ fun vs H1 x1 r1 => ?_
          cases r1 with
          | cons o t =>
            cases t
            obtain ⟨a, ws, rfl, hs, r⟩ := asLS_opd o k2
            have he := asInts_inv k3
            subst he
            have hw := rp_ints r
            subst hw
            refine ⟨a, ns, rfl, hs, fun ns' p pm so hp => ?_⟩
            have e1 : ns' = ns.mergeSort (fun a b => decide (a ≤ b)) := sorted_one (pm.trans (List.mergeSort_perm ns _).symm) so (ms_sorted ns)
            subst e1
            exact q p _ _ (x1.free hp) (x1.trans (PL.Ex.new hp)) upd_same (RpAll.ints _)
    · cases e
theorem fSorted (hm : X.mg "sorted" = none) (hg : Gl X "sorted" := by rfl) (ha : EA K X (e :: es) tr fr) (he : starEach (e :: es) X.env = (false, eval e X.env) :: starEach es X.env := by rfl) (hpl : (backTo pos (starEach es X.env)).any (·.1) = false := by rfl) (hK : X.K = K := by rfl) :
    EN K X (.Call (.Name "sorted" p) (e :: es) [] pos) (tCB (rSortedI K) tr) (nSorted fr) := by
  subst hK
  exact ⟨pe_callB cr_sortedI hg hm (by decide +kernel) ha.pe (by decide) (by decide) he hpl, den_sorted ha.de⟩
/-- list(range(n)) -/
def nRange (f : PL.Env → Option PyData) : PL.Env → Option (List PyData) := fun env => (f env).bind fun
  | .int n => if -100000 ≤ n ∧ n ≤ 100000 then some (rgD 0 n.toNat) else none
  | _ => none
theorem rp_rg {H : Hp} (n : Int) : RpAll K H (rgV 0 n) (rgD 0 n.toNat) := by
  unfold rgV rgD
  rw [Int.sub_zero]
  generalize List.range n.toNat = l
  induction l with
  | nil => exact .nil
  | cons a r ih => exact .cons (.int _) ih
theorem fListRange {q1 q2 q3 : Pos} (hl : X.mg "list" = none) (hm : X.mg "range" = none) (ha : EO K X a te f) (hc : X.calm = true := by rfl) (hg : Gl X "range" := by rfl) (hgl : Gl X "list" := by rfl) (na : starEach [a] X.env = (false, eval a X.env) :: starEach [] X.env := by rfl)
    (nb : starEach [.Call (.Name "range" q1) [a] [] q2] X.env = (false, eval (.Call (.Name "range" q1) [a] [] q2) X.env) :: starEach [] X.env := by rfl) :
    EN K X (.Call (.Name "list" q3) [.Call (.Name "range" q1) [a] [] q2] [] pos) (tLstRg (tRg1 te)) (nRange f) := by
  refine ⟨pe_listRg hc hgl hl (prg_1 hg hm ha.pe na) nb, ?_⟩
  intro base O0 O σ H env ds S e Q q
  unfold nRange at e
  cases k1 : f env with
  | none => simp [k1] at e
  | some d =>
    simp only [k1, Option.bind_some] at e
    split at e
    · split at e
      · cases e
        rename_i n hn
        refine ha.de base O0 O σ H env _ S k1 _ fun v H1 x1 o => ⟨n, o.int, ⟨by omega, by omega, by omega, by omega, by omega⟩, fun p hp => ?_⟩
        exact q p _ _ (x1.free hp) (x1.trans (PL.Ex.new hp)) upd_same (rp_rg n)
      · cases e
    · cases e
end
end PL
/-! Plain mathematics over the functions of data. -/
namespace PL
open PySem L2

theorem lc_gen {G : PyData → PL.Env → Option PL.Env} {t : PL.Env → Option Bool} {f : PL.Env → Option PyData} {env : PL.Env} (E : PyData → PL.Env) (p : PyData → Bool) (g : PyData → PyData) : ∀ xs : List PyData, (∀ x ∈ xs, G x env = some (E x)) → (∀ x ∈ xs, t (E x) = some (p x)) → (∀ x ∈ xs, p x = true → f (E x) = some (g x)) → lcGo G t f env xs = some ((xs.filter p).map g)
  | [], _, _, _ => rfl
  | x :: xs, hG, ht, hf => by
    have ih := lc_gen E p g xs (fun y m => hG y (List.mem_cons_of_mem _ m)) (fun y m => ht y (List.mem_cons_of_mem _ m)) (fun y m => hf y (List.mem_cons_of_mem _ m))
    have m := List.mem_cons_self (a := x) (l := xs)
    unfold lcGo
    rw [hG x m, Option.bind_some, ht x m, Option.bind_some, ih]
    cases e : p x with
    | true =>
      rw [if_pos rfl, hf x m e, Option.bind_some, List.filter_cons, if_pos e]
      rfl
    | false =>
      rw [if_neg Bool.false_ne_true, List.filter_cons, if_neg (by rw [e]; decide)]
theorem lc_all {G : PyData → PL.Env → Option PL.Env} {f : PL.Env → Option PyData} {env : PL.Env} (E : PyData → PL.Env) (g : PyData → PyData) (xs : List PyData) (hG : ∀ x ∈ xs, G x env = some (E x)) (hf : ∀ x ∈ xs, f (E x) = some (g x)) : lcGo G (fun _ => some true) f env xs = some (xs.map g) := by
  rw [lc_gen E (fun _ => true) g xs hG (fun _ _ => rfl) (fun x m _ => hf x m), List.filter_eq_self.mpr (fun _ _ => rfl)]
/-- a loop whose names are told turn by turn -/
theorem for_gen {G : PyData → PL.Env → Option PL.Env} {F : PL.Env → Option Out} (E : Nat → PL.Env) : ∀ (xs : List PyData) (k : Nat), (∀ i x, xs[i]? = some x → (G x (E (k + i))).bind F = some (.nx (E (k + i + 1)))) → fGo G F xs (E k) = some (.nx (E (k + xs.length)))
  | [], k, _ => rfl
  | x :: xs, k, h => by
    have h0 := h 0 x rfl
    rw [Nat.add_zero] at h0
    unfold fGo
    cases kg : G x (E k) with
    | none => rw [kg] at h0; cases h0
    | some e1 =>
      rw [kg, Option.bind_some] at h0
      rw [Option.bind_some, h0, Option.bind_some]
      show fGo G F xs (E (k + 1)) = _
      rw [for_gen E xs (k + 1) fun i y hy => by
        have := h (i + 1) y hy
        rw [show k + (i + 1) = k + 1 + i by omega] at this
        exact this]
      rw [List.length_cons, show k + 1 + xs.length = k + (xs.length + 1) by omega]
/-- a loop by a word -/
theorem for_inv {G : PyData → PL.Env → Option PL.Env} {F : PL.Env → Option Out} (I : Nat → PL.Env → Prop) : ∀ (xs : List PyData) (k : Nat) (env : PL.Env), I k env → (∀ i x e, xs[i]? = some x → I (k + i) e → ∃ e', ((G x e).bind F = some (.nx e') ∨ (G x e).bind F = some (.ct e')) ∧ I (k + i + 1) e') → ∃ e', fGo G F xs env = some (.nx e') ∧ I (k + xs.length) e'
  | [], k, env, h0, _ => ⟨env, rfl, h0⟩
  | x :: xs, k, env, h0, h => by
    obtain ⟨e1, h1, h2⟩ := h 0 x env rfl (by rw [Nat.add_zero]; exact h0)
    rw [Nat.add_zero] at h2
    have hg : ∃ e0, G x env = some e0 ∧ (F e0 = some (.nx e1) ∨ F e0 = some (.ct e1)) := by
      cases kg : G x env with
      | none => rw [kg] at h1; rcases h1 with h1 | h1 <;> cases h1
      | some e0 => rw [kg] at h1; exact ⟨e0, rfl, h1⟩
    obtain ⟨e0, kg, hf⟩ := hg
    obtain ⟨e2, h3, h4⟩ := for_inv I xs (k + 1) e1 h2 fun i y e hy hi => by
      have := h (i + 1) y e hy (by rw [show k + (i + 1) = k + 1 + i by omega]; exact hi)
      rw [show k + (i + 1) + 1 = k + 1 + i + 1 by omega] at this
      exact this
    refine ⟨e2, ?_, by rw [List.length_cons, show k + (xs.length + 1) = k + 1 + xs.length by omega]; exact h4⟩
    unfold fGo
    rw [kg, Option.bind_some]
    rcases hf with hf | hf <;> (rw [hf, Option.bind_some]; exact h3)
/-! ### texts -/
def cs (z : Str) : List Nat := z.cps.toList
theorem cs_inj {a b : Str} (h : cs a = cs b) : a = b := by
  cases a
  cases b
  congr 1
  exact Array.toList_inj.mp h
theorem cs_app (a b : Str) : cs (a ++ b) = cs a ++ cs b := by
  unfold cs
  rw [Str.cps_append, Array.toList_append]
theorem cs_len (a : Str) : (cs a).length = a.length := by
  unfold cs
  rw [Array.length_toList]
  rfl
theorem cs_cut_to (z : Str) (k : Nat) : cs (cutS z none (some (k : Int))) = (cs z).take k := by
  unfold cutS cs
  rw [HT.sIx_none, HT.sIx_nat, List.drop_zero, Nat.sub_zero]
  show (List.take (min k z.length) z.cps.toList) = _
  by_cases h : k ≤ z.length
  · rw [Nat.min_eq_left h]
  · rw [Nat.min_eq_right (by omega), List.take_of_length_le (by rw [Array.length_toList]; exact Nat.le_refl _), List.take_of_length_le (by rw [Array.length_toList]; show z.length ≤ k; omega)]
theorem cs_cut_from (z : Str) (k : Nat) : cs (cutS z (some (k : Int)) none) = (cs z).drop k := by
  unfold cutS cs
  rw [HT.sIx_none, HT.sIx_nat]
  show (List.take (z.length - min k z.length) (List.drop (min k z.length) z.cps.toList)) = _
  by_cases h : k ≤ z.length
  · rw [Nat.min_eq_left h, List.take_of_length_le]
    rw [List.length_drop, Array.length_toList]
    exact Nat.le_refl _
  · rw [Nat.min_eq_right (by omega), Nat.sub_self, List.take_zero, List.drop_eq_nil_of_le]
    rw [Array.length_toList]
    show z.length ≤ k
    omega
theorem cs_join (l : List Nat) : cs (Txt.join "" (l.map fun c => (⟨#[c]⟩ : Str))) = l := by
  rw [TL.join_eq]
  have h := TL.tl_join "" (l.map fun c => (⟨#[c]⟩ : Str))
  have : ∀ l : List Nat, TL.joinL (TL.tl "") ((l.map fun c => (⟨#[c]⟩ : Str)).map TL.tl) = l := fun l => by
    induction l with
    | nil => rfl
    | cons a r ih =>
      cases r with
      | nil => rfl
      | cons b r =>
        show [a] ++ (([] : List Nat) ++ TL.joinL (TL.tl "") (((b :: r).map fun c => (⟨#[c]⟩ : Str)).map TL.tl)) = _
        rw [ih]
        rfl
  rw [this] at h
  exact h
/-- a text of small letters, short -/
structure Nm (z : Str) : Prop where
  low : ∀ c ∈ cs z, 97 ≤ c ∧ c ≤ 122
  len : (cs z).length ≤ 8
theorem Nm.ok {z : Str} (h : Nm z) : PyData.strOk z = true := by
  unfold PyData.strOk
  rw [← Array.all_toList, List.all_eq_true]
  intro c m
  have := h.low c m
  simp
  omega
theorem shaped_str {z : Str} (h : PyData.strOk z = true) : SeqAt.shaped (.str z) = true := by
  unfold SeqAt.shaped
  have : PyData.canLay0 (.str z) = PyData.strOk z := rfl
  rw [this, h]
  rfl
theorem shaped_int (i : Int) : SeqAt.shaped (.int i) = true := rfl
theorem shaped_none : SeqAt.shaped .none = true := rfl
theorem canLayAll_iff : ∀ {ds : List PyData}, PyData.canLayAll0 ds = true ↔ ∀ d ∈ ds, d.canLay0 = true
  | [] => by simp [PyData.canLayAll0]
  | d :: ds => by
    rw [canLayAll_cons, Bool.and_eq_true, canLayAll_iff]
    simp
theorem depthAll_le {n : Nat} : ∀ {ds : List PyData}, (∀ d ∈ ds, d.depth ≤ n) → PyData.depthAll ds ≤ n
  | [], _ => Nat.zero_le _
  | d :: ds, h => by
    show max d.depth (PyData.depthAll ds) ≤ n
    have h1 := h d (List.mem_cons_self ..)
    have h2 := depthAll_le (ds := ds) fun e m => h e (List.mem_cons_of_mem _ m)
    omega
/-- fit to be compared, at most n deep -/
def Fit (n : Nat) (d : PyData) : Prop := d.canLay0 = true ∧ d.depth ≤ n
theorem Fit.sh {n : Nat} {d : PyData} (h : Fit n d) (hn : n ≤ 64) : SeqAt.shaped d = true := by
  unfold SeqAt.shaped
  rw [h.1, Bool.true_and, decide_eq_true (Nat.le_trans h.2 hn)]
theorem fit_list {n : Nat} {ds : List PyData} (h : ∀ d ∈ ds, Fit n d) : Fit (n + 1) (.list ds) := ⟨canLayAll_iff.mpr fun d m => (h d m).1, by
  show PyData.depthAll ds + 1 ≤ n + 1
  have := depthAll_le fun d m => (h d m).2
  omega⟩
theorem fit_tup {n : Nat} {ds : List PyData} (h : ∀ d ∈ ds, Fit n d) : Fit (n + 1) (.tuple ds) := ⟨canLayAll_iff.mpr fun d m => (h d m).1, by
  show PyData.depthAll ds + 1 ≤ n + 1
  have := depthAll_le fun d m => (h d m).2
  omega⟩
theorem fit_str {z : Str} (n : Nat) (h : PyData.strOk z = true) : Fit n (.str z) := ⟨h, Nat.zero_le _⟩
theorem fit_int (n : Nat) (i : Int) : Fit n (.int i) := ⟨rfl, Nat.zero_le _⟩
theorem fit_none (n : Nat) : Fit n .none := ⟨rfl, Nat.zero_le _⟩
theorem fit_bool (n : Nat) (b : Bool) : Fit n (.bool b) := ⟨rfl, Nat.zero_le _⟩
theorem eqv_str (a b : Str) : PyData.eqv (.str a) (.str b) = decide (a = b) := by
  show (a == b) = _
  rw [Bool.eq_iff_iff]
  simp
theorem eqv_int (a b : Int) : PyData.eqv (.int a) (.int b) = decide (a = b) := by
  show (a == b) = _
  rw [Bool.eq_iff_iff]
  simp
/-- what no two numbers and truths are: equal by == just where they are one -/
theorem eqvAll_refl_of {P : PyData → Prop} : ∀ {xs ys : List PyData}, (∀ x ∈ xs, ∀ y ∈ ys, (PyData.eqv x y = true ↔ x = y)) → (PyData.eqvAll xs ys = true ↔ xs = ys)
  | [], [], _ => by simp [PyData.eqvAll]
  | [], _ :: _, _ => by simp [PyData.eqvAll]
  | _ :: _, [], _ => by simp [PyData.eqvAll]
  | x :: xs, y :: ys, h => by
    show (PyData.eqv x y && PyData.eqvAll xs ys) = true ↔ _
    rw [Bool.and_eq_true, h x (List.mem_cons_self ..) y (List.mem_cons_self ..), eqvAll_refl_of (P := P) fun a m b n => h a (List.mem_cons_of_mem _ m) b (List.mem_cons_of_mem _ n)]
    simp
theorem cmul_l {i j : Int} (h : -18446744073709551616 < i ∧ i < 18446744073709551616) : cMul i j = true := by unfold cMul; exact decide_eq_true (.inl h)
theorem cmul_r {i j : Int} (h : -18446744073709551616 < j ∧ j < 18446744073709551616) : cMul i j = true := by unfold cMul; exact decide_eq_true (.inr h)
theorem cdiv_ {i j : Int} (h : 0 < j ∧ j < 1073741824) : cDiv i j = true := decide_eq_true h
theorem cmod_ {i j : Int} (h : 0 < j) : cMod i j = true := decide_eq_true h
theorem seq_asg {f : PL.Env → Option PyData} {i : Nat} {F : PL.Env → Option Out} {env : PL.Env} {d : PyData} (h : f env = some d) : sSeq (sAsg f (tgN i)) F env = F (env.set i (.sh d)) := by
  unfold sSeq sAsg
  rw [h]
  rfl
theorem mul_ev {a b : PL.Env → Option PyData} {env : PL.Env} {i j : Int} (ha : a env = some (.int i)) (hb : b env = some (.int j)) (h : cMul i j = true) : e2 (gIC cMul (· * ·)) a b env = some (.int (i * j)) := by
  unfold e2
  rw [ha, hb]
  show (if cMul i j then some (PyData.int (i * j)) else none) = _
  rw [if_pos h]
theorem div_ev {a b : PL.Env → Option PyData} {env : PL.Env} {i j : Int} (ha : a env = some (.int i)) (hb : b env = some (.int j)) (h : 0 < j ∧ j < 1073741824) : e2 (gIC cDiv (· / ·)) a b env = some (.int (i / j)) := by
  unfold e2
  rw [ha, hb]
  show (if cDiv i j then some (PyData.int (i / j)) else none) = _
  rw [if_pos (cdiv_ h)]
theorem mod_ev {a b : PL.Env → Option PyData} {env : PL.Env} {i j : Int} (ha : a env = some (.int i)) (hb : b env = some (.int j)) (h : 0 < j) : e2 (gIC cMod (· % ·)) a b env = some (.int (i % j)) := by
  unfold e2
  rw [ha, hb]
  show (if cMod i j then some (PyData.int (i % j)) else none) = _
  rw [if_pos (cmod_ h)]
theorem add_ev {a b : PL.Env → Option PyData} {env : PL.Env} {i j : Int} (ha : a env = some (.int i)) (hb : b env = some (.int j)) : e2 gAdd a b env = some (.int (i + j)) := by
  unfold e2
  rw [ha, hb]
  rfl
theorem sub_ev {a b : PL.Env → Option PyData} {env : PL.Env} {i j : Int} (ha : a env = some (.int i)) (hb : b env = some (.int j)) : e2 (gI (· - ·)) a b env = some (.int (i - j)) := by
  unfold e2
  rw [ha, hb]
  rfl
theorem cat_ev {a b : PL.Env → Option PyData} {env : PL.Env} {x y : Str} (ha : a env = some (.str x)) (hb : b env = some (.str y)) (h : x.length + y.length ≤ 100000) : e2 gAdd a b env = some (.str (x ++ y)) := by
  unfold e2
  rw [ha, hb]
  show (if x.length + y.length ≤ 100000 then some (PyData.str (x ++ y)) else none) = _
  rw [if_pos h]
theorem eqi_ev {a b : PL.Env → Option PyData} {env : PL.Env} {i j : Int} (ha : a env = some (.int i)) (hb : b env = some (.int j)) : tE (e2 gEq a b) env = some (decide (i = j)) := by
  unfold tE e2
  rw [ha, hb]
  show (some (PyData.bool (PyData.eqv (.int i) (.int j)))).bind asB = _
  rw [eqv_int]
  rfl
theorem lent_ev {f : PL.Env → Option PyData} {env : PL.Env} {z : Str} (h : f env = some (.str z)) (hl : z.length ≤ 100000) : eA gLen (aCons f aNil) env = some (.int z.length) := by
  unfold eA aCons aNil
  rw [h]
  show (if z.length ≤ 100000 then some (PyData.int z.length) else none) = _
  rw [if_pos hl]
theorem ix_ev {a b : PL.Env → Option PyData} {env : PL.Env} {ds : List PyData} {i : Int} {d : PyData} (ha : a env = some (.list ds)) (hb : b env = some (.int i)) (h : atI ds i = some d) : e2 gIx a b env = some d := by
  unfold e2
  rw [ha, hb]
  exact h
theorem ixt_ev {a b : PL.Env → Option PyData} {env : PL.Env} {ds : List PyData} {i : Int} {d : PyData} (ha : a env = some (.tuple ds)) (hb : b env = some (.int i)) (h : atI ds i = some d) : e2 gIx a b env = some d := by
  unfold e2
  rw [ha, hb]
  exact h
theorem atI_nat' {α : Type} {l : List α} {n : Nat} {x : α} (h : l[n]? = some x) : atI l (n : Int) = some x := by
  have hn := (List.getElem?_eq_some_iff.mp h).1
  unfold atI ixN
  rw [if_pos (by omega), if_pos (by omega)]
  exact h
theorem lt_ev {a b : PL.Env → Option PyData} {env : PL.Env} {i j : Int} (ha : a env = some (.int i)) (hb : b env = some (.int j)) : tE (e2 (gB fun i j => decide (i < j)) a b) env = some (decide (i < j)) := by
  unfold tE e2
  rw [ha, hb]
  rfl
theorem gt_ev {a b : PL.Env → Option PyData} {env : PL.Env} {i j : Int} (ha : a env = some (.int i)) (hb : b env = some (.int j)) : tE (e2 (gB fun i j => decide (j < i)) a b) env = some (decide (j < i)) := by
  unfold tE e2
  rw [ha, hb]
  rfl
theorem if_seq {t : PL.Env → Option Bool} {F F2 F3 : PL.Env → Option Out} {env : PL.Env} {b : Bool} (h : t env = some b) : sSeq (sIf t F F2) F3 env = sSeq (if b then F else F2) F3 env := by
  unfold sSeq sIf
  rw [h, Option.bind_some]
  cases b <;> rfl
theorem next_seq {F3 : PL.Env → Option Out} {env : PL.Env} : sSeq sNext F3 env = F3 env := rfl
theorem tA_ev {a b : PL.Env → Option Bool} {env : PL.Env} {x y : Bool} (ha : a env = some x) (hb : x = true → b env = some y) : tA a b env = some (x && y) := by
  unfold tA
  rw [ha, Option.bind_some]
  cases x with
  | true => exact hb rfl
  | false => rfl
theorem tO_ev {a b : PL.Env → Option Bool} {env : PL.Env} {x y : Bool} (ha : a env = some x) (hb : x = false → b env = some y) : tO a b env = some (x || y) := by
  unfold tO
  rw [ha, Option.bind_some]
  cases x with
  | false => exact hb rfl
  | true => rfl
theorem tup2_ev {a b : PL.Env → Option PyData} {env : PL.Env} {x y : PyData} (ha : a env = some x) (hb : b env = some y) : eTup (aCons a (aCons b aNil)) env = some (.tuple [x, y]) := by
  unfold eTup aCons aNil
  rw [ha, hb]
  rfl
theorem call1_ev {f : List PyData → Option PyData} {a : PL.Env → Option PyData} {env : PL.Env} {x z : PyData} (ha : a env = some x) (h : f [x] = some z) : eA (fun ds => if ds.length = 1 then f ds else none) (aCons a aNil) env = some z := by
  unfold eA aCons aNil
  rw [ha]
  exact h
theorem call2_ev {f : List PyData → Option PyData} {a b : PL.Env → Option PyData} {env : PL.Env} {x y z : PyData} (ha : a env = some x) (hb : b env = some y) (h : f [x, y] = some z) : eA (fun ds => if ds.length = 2 then f ds else none) (aCons a (aCons b aNil)) env = some z := by
  unfold eA aCons aNil
  rw [ha, hb]
  exact h
theorem call3_ev {f : List PyData → Option PyData} {a b c : PL.Env → Option PyData} {env : PL.Env} {x y u z : PyData} (ha : a env = some x) (hb : b env = some y) (hc : c env = some u) (h : f [x, y, u] = some z) : eA (fun ds => if ds.length = 3 then f ds else none) (aCons a (aCons b (aCons c aNil))) env = some z := by
  unfold eA aCons aNil
  rw [ha, hb, hc]
  exact h
theorem cut_to_ev {f g : PL.Env → Option PyData} {env : PL.Env} {z : Str} {k : Nat} (h : f env = some (.str z)) (hk : g env = some (.int (k : Int))) (hl : z.length ≤ 100000) : eSlS f oNone (oSome g) env = some (.str (cutS z none (some (k : Int)))) := by
  unfold eSlS oNone oSome
  rw [h, hk]
  show (if z.length ≤ 100000 then some (PyData.str (cutS z none (some (k : Int)))) else none) = _
  rw [if_pos hl]
theorem cut_from_ev {f g : PL.Env → Option PyData} {env : PL.Env} {z : Str} {k : Nat} (h : f env = some (.str z)) (hk : g env = some (.int (k : Int))) (hl : z.length ≤ 100000) : eSlS f (oSome g) oNone env = some (.str (cutS z (some (k : Int)) none)) := by
  unfold eSlS oNone oSome
  rw [h, hk]
  show (if z.length ≤ 100000 then some (PyData.str (cutS z (some (k : Int)) none)) else none) = _
  rw [if_pos hl]
theorem join_ev {f : PL.Env → Option (List PyData)} {env : PL.Env} {l : List Nat} (h : f env = some (l.map fun c => .str ⟨#[c]⟩)) (hl : l.length ≤ 1000) : ∃ z, e2 gJoin (eC (.str "")) (eL f) env = some (.str z) ∧ cs z = l := by
  have hs : asStrs (l.map fun c => PyData.str ⟨#[c]⟩) = some (l.map fun c => (⟨#[c]⟩ : Str)) := by
    clear h hl
    induction l with
    | nil => rfl
    | cons a r ih =>
      show (asStrs (r.map fun c => PyData.str ⟨#[c]⟩)).map _ = _
      rw [ih]
      rfl
  refine ⟨Txt.join "" (l.map fun c => (⟨#[c]⟩ : Str)), ?_, cs_join l⟩
  unfold e2 eC eL
  rw [h]
  show (asStrs (l.map fun c => PyData.str ⟨#[c]⟩)).bind _ = _
  rw [hs, Option.bind_some, if_pos]
  have h1 : ((l.map fun c => (⟨#[c]⟩ : Str)).map (·.length)).sum = l.length := by
    clear h hl hs
    induction l with
    | nil => rfl
    | cons a r ih =>
      rw [List.map_cons, List.map_cons, List.sum_cons, ih, List.length_cons]
      show 1 + _ = _
      omega
  rw [h1, show (Str.ofString "").length = 0 from by decide +kernel, Nat.mul_zero]
  omega
theorem fgo_nx {G : PyData → PL.Env → Option PL.Env} {F : PL.Env → Option Out} {x : PyData} {xs : List PyData} {env e1 e2 : PL.Env} (h1 : G x env = some e1) (h2 : F e1 = some (.nx e2)) : fGo G F (x :: xs) env = fGo G F xs e2 := by
  show (G x env).bind _ = _
  rw [h1, Option.bind_some, h2]
  rfl
theorem if_val {t : PL.Env → Option Bool} {F F2 : PL.Env → Option Out} {env : PL.Env} {b : Bool} (h : t env = some b) : sIf t F F2 env = if b then F env else F2 env := by
  show (t env).bind _ = _
  rw [h]
  rfl
theorem if_yes {t : PL.Env → Option Bool} {F F2 : PL.Env → Option Out} {env : PL.Env} (h : t env = some true) : sIf t F F2 env = F env := if_val h
theorem if_no {t : PL.Env → Option Bool} {F F2 : PL.Env → Option Out} {env : PL.Env} (h : t env = some false) : sIf t F F2 env = F2 env := if_val h
theorem seq_nx {F F2 : PL.Env → Option Out} {env e : PL.Env} (h : F env = some (.nx e)) : sSeq F F2 env = F2 e := by
  show (F env).bind _ = _
  rw [h]
  rfl
theorem seq_rt {F F2 : PL.Env → Option Out} {env : PL.Env} {d : PyData} (h : F env = some (.rt d)) : sSeq F F2 env = some (.rt d) := by
  show (F env).bind _ = _
  rw [h]
  rfl
theorem app_nx {i : Nat} {f : PL.Env → Option PyData} {env : PL.Env} {ds : List PyData} {d : PyData} (h1 : env[i]? = some (.own ds)) (h2 : f env = some d) (h3 : ds.length < 100000) : sApp i f env = some (.nx (env.set i (.own (ds ++ [d])))) := by
  unfold sApp
  rw [h1]
  show (f env).bind _ = _
  rw [h2, Option.bind_some, if_pos h3]
theorem asg_nx {f : PL.Env → Option PyData} {i : Nat} {env : PL.Env} {d : PyData} (h : f env = some d) : sAsg f (tgN i) env = some (.nx (env.set i (.sh d))) := by
  unfold sAsg
  rw [h]
  rfl
end PL
/-! Dicts of texts as data: read only. -/
namespace PL
open PySem L2 PySem.Spec PyProof.Rows
/-- the value at a text -/
def lookP : List (PyData × PyData) → Str → Option PyData
  | [], _ => none
  | q :: r, x => match q.1 with
    | .str k => if k = x then some q.2 else lookP r x
    | _ => lookP r x
def gDg : PyData → PyData → Option PyData
  | .dict kvs, .str x => lookP kvs x
  | _, _ => none
def isKS : PyData × PyData → Bool
  | (.str _, _) => true
  | _ => false
def gDin (neg : Bool) : PyData → PyData → Option PyData
  | .str x, .dict kvs => if kvs.all isKS then some (.bool (if neg then !(lookP kvs x).isSome else (lookP kvs x).isSome)) else none
  | _, _ => none
section
variable {K : PySem.W.Frag} {H : Hp}
theorem look_rp {x : Str} : ∀ {ks : List Str} {vs : List V} {ds : List PyData}, RpAll K H vs ds → ks.length = vs.length →
    (∀ d, lookP (kvP ks ds) x = some d → ∃ v, valV (kvV ks vs) (Sum.inr x) = some v ∧ Rp K H v d) ∧ (lookP (kvP ks ds) x = none → valV (kvV ks vs) (Sum.inr x) = none)
  | [], [], ds, r, _ => by
    cases r
    exact ⟨(fun d h => by cases h), fun _ => rfl⟩
  | k :: ks, v :: vs, ds, r, l => by
    cases r with
    | cons r t =>
      rename_i d ds
      have ih := look_rp (x := x) (ks := ks) t (by simpa using l)
      by_cases e : k = x
      · have h1 : valV (kvV (k :: ks) (v :: vs)) (Sum.inr x) = some v := valV_pos (by show Sum.inr k = Sum.inr x; rw [e])
        have h2 : lookP (kvP (k :: ks) (d :: ds)) x = some d := if_pos e
        refine ⟨fun d2 h => ?_, fun h => ?_⟩
        · rw [h2] at h
          cases h
          exact ⟨v, h1, r⟩
        · rw [h2] at h
          cases h
      · have h1 : valV (kvV (k :: ks) (v :: vs)) (Sum.inr x) = valV (kvV ks vs) (Sum.inr x) := valV_neg (fun z => e (Sum.inr.inj z))
        have h2 : lookP (kvP (k :: ks) (d :: ds)) x = lookP (kvP ks ds) x := if_neg e
        rw [h1, h2]
        exact ih
variable {O : Hid} {v : V}
theorem rp_dic {kvs : List (PyData × PyData)} (h : Rp K (vis O H) v (.dict kvs)) (hk : kvs.all isKS = true ∨ ∃ x d, lookP kvs x = some d) : ∃ a ks vs ds, v = .ref a ∧ H a = some (.dK (kvV ks vs)) ∧ ks.length = vs.length ∧ RpAll K (vis O H) vs ds ∧ kvs = kvP ks ds := by
  generalize hd : PyData.dict kvs = d at h
  cases h with
  | scr h =>
    injection hd with hd
    rw [hd] at hk
    rcases hk with hk | ⟨x, d, hk⟩ <;> cases hk
  | dic h l r =>
    injection hd with hd
    exact ⟨_, _, _, _, rfl, vis_le _ _ h, l, r, hd⟩
  | _ => cases hd
variable {te tk : TE} {f g : PL.Env → Option PyData}
theorem den_dget (h : DenP K te f) (hk : Den K tk g) : DenP K (tDGet te tk) (e2 gDg f g) := by
  intro base O0 O σ H env d S e Q q
  unfold e2 at e
  cases k1 : f env with
  | none => simp [k1] at e
  | some x =>
    cases k2 : g env with
    | none => simp [k1, k2] at e
    | some y =>
      simp only [k1, k2, Option.bind_some] at e
      unfold gDg at e
      split at e
      · rename_i kvs z
        refine h base O0 O σ H env _ S k1 _ fun v H1 x1 o1 => hk base O0 O σ H1 env _ (S.mono x1) k2 _ fun u H2 x2 o2 => ?_
        obtain ⟨a, ks, vs, ds, rfl, ha, hl, r, rfl⟩ := rp_dic (o1.mono (vis_mono x2)) (.inr ⟨_, _, e⟩)
        obtain ⟨w, hw, rw_⟩ := (look_rp r hl).1 _ e
        rw [o2.str]
        refine ⟨a, w, rfl, ?_, q w H2 (x1.trans x2) rw_⟩
        have := DGet.k (k := Sum.inr z) ha
        rw [hw] at this
        exact this
      · cases e
theorem den_din (hk : Den K tk g) (h : DenP K te f) : DenP K (tDIn tk te) (e2 (gDin false) g f) := by
  intro base O0 O σ H env d S e Q q
  unfold e2 at e
  cases k1 : g env with
  | none => simp [k1] at e
  | some x =>
    cases k2 : f env with
    | none => simp [k1, k2] at e
    | some y =>
      simp only [k1, k2, Option.bind_some] at e
      unfold gDin at e
      split at e
      · rename_i z kvs
        split at e
        case isFalse => cases e
        rename_i hs
        cases e
        refine hk base O0 O σ H env _ S k1 _ fun u H1 x1 o1 => h base O0 O σ H1 env _ (S.mono x1) k2 _ fun v H2 x2 o2 => ?_
        obtain ⟨a, ks, vs, ds, rfl, ha, hl, r, rfl⟩ := rp_dic o2 (.inl hs)
        rw [o1.str]
        have hw := look_rp (x := z) r hl
        refine ⟨a, _, rfl, DGet.k (k := Sum.inr z) ha, ?_⟩
        have : (valV (kvV ks vs) (Sum.inr z)).isSome = (lookP (kvP ks ds) z).isSome := by
          cases k : lookP (kvP ks ds) z with
          | none => rw [hw.2 k]; rfl
          | some d =>
            obtain ⟨w, e1, _⟩ := hw.1 d k
            rw [e1]
            rfl
        rw [this]
        exact q _ H2 (x1.trans x2) (.bl _)
      · cases e
theorem den_dnin (hk : Den K tk g) (h : DenP K te f) : DenP K (tDNotIn tk te) (e2 (gDin true) g f) := by
  intro base O0 O σ H env d S e Q q
  unfold e2 at e
  cases k1 : g env with
  | none => simp [k1] at e
  | some x =>
    cases k2 : f env with
    | none => simp [k1, k2] at e
    | some y =>
      simp only [k1, k2, Option.bind_some] at e
      unfold gDin at e
      split at e
      · rename_i z kvs
        split at e
        case isFalse => cases e
        rename_i hs
        cases e
        refine hk base O0 O σ H env _ S k1 _ fun u H1 x1 o1 => h base O0 O σ H1 env _ (S.mono x1) k2 _ fun v H2 x2 o2 => ?_
        obtain ⟨a, ks, vs, ds, rfl, ha, hl, r, rfl⟩ := rp_dic o2 (.inl hs)
        rw [o1.str]
        have hw := look_rp (x := z) r hl
        refine ⟨a, _, rfl, DGet.k (k := Sum.inr z) ha, ?_⟩
        have : (valV (kvV ks vs) (Sum.inr z)).isSome = (lookP (kvP ks ds) z).isSome := by
          cases k : lookP (kvP ks ds) z with
          | none => rw [hw.2 k]; rfl
          | some d =>
            obtain ⟨w, e1, _⟩ := hw.1 d k
            rw [e1]
            rfl
        rw [this]
        exact q _ H2 (x1.trans x2) (.bl _)
      · cases e
end
section
variable {K : PySem.W.Frag} {X : Cx} {a b : Expr} {ta tb : TE} {fa fb : PL.Env → Option PyData} {pos : Pos}
theorem dgx (hu : X.A.units + 1 < cLine) (ha : EP K X a ta fa) (hb : EO K X b tb fb) (hs : NoSl b := by exact fun _ _ => rfl) : EP K X (.Subscript a b pos) (tDGet ta tb) (e2 gDg fa fb) := ⟨pe_dget hu ha.pe hb.pe hs, den_dget ha.de hb.de⟩
theorem tDin_ (hu : X.A.units + 1 < cLine) (ha : EO K X a ta fa) (hb : EP K X b tb fb) (hm : behindInMarks .In b = false := by rfl) : ET K X (.Compare a [.In] [b] pos) (tTest (tDIn ta tb)) (tE (e2 (gDin false) fa fb)) := ⟨pt_cmp (h1 := hm) (pc_din hu ha.pe hb.pe), den_test (den_din ha.de hb.de).o⟩
theorem tDnin_ (hu : X.A.units + 1 < cLine) (ha : EO K X a ta fa) (hb : EP K X b tb fb) (hm : behindInMarks .NotIn b = false := by rfl) : ET K X (.Compare a [.NotIn] [b] pos) (tTest (tDNotIn ta tb)) (tE (e2 (gDin true) fa fb)) := ⟨pt_cmp (h1 := hm) (pc_dnotin hu ha.pe hb.pe), den_test (den_dnin ha.de hb.de).o⟩
end
/-! ### displays -/
theorem merge_new : ∀ (more acc : List (Key × V)), ((acc ++ more).map (·.1)).Nodup → more.foldl (fun acc kv => putK acc kv.1 kv.2) acc = acc ++ more
  | [], acc, _ => by rw [List.append_nil]; rfl
  | q :: more, acc, h => by
    have h1 : ¬ (acc.any fun kv => decide (kv.1 = q.1)) = true := fun z => by
      obtain ⟨r, m, e⟩ := List.any_eq_true.mp z
      rw [List.map_append, List.nodup_append] at h
      exact h.2.2 _ (List.mem_map_of_mem m) _ (List.mem_map_of_mem (List.mem_cons_self ..)) (of_decide_eq_true e)
    rw [List.foldl_cons]
    have h2 : putK acc q.1 q.2 = acc ++ [q] := by
      unfold putK
      rw [if_neg h1]
    rw [h2, merge_new more (acc ++ [q]) (by rw [List.append_assoc]; exact h), List.append_assoc]
    rfl
theorem kvV_keys : ∀ {ks : List Str} {vs : List V}, ks.length = vs.length → (kvV ks vs).map (·.1) = ks.map fun k => (Sum.inr k : Key)
  | [], [], _ => rfl
  | k :: ks, v :: vs, l => by
    have := kvV_keys (ks := ks) (vs := vs) (by simpa using l)
    show (Sum.inr k : Key) :: (kvV ks vs).map (·.1) = _
    rw [this]
    rfl
theorem keys_nd {ks : List Str} (h : ks.Nodup) : (ks.map fun k => (Sum.inr k : Key)).Nodup := by
  induction ks with
  | nil => exact List.nodup_nil
  | cons k ks ih =>
    rw [List.nodup_cons] at h
    rw [List.map_cons, List.nodup_cons]
    refine ⟨fun m => ?_, ih h.2⟩
    obtain ⟨z, mz, e⟩ := List.mem_map.mp m
    rw [← Sum.inr.inj e] at h
    exact h.1 mz
def DenPs (K : PySem.W.Frag) (l : List (TE × TE)) (ks : List Str) (fr : PL.Env → Option (List PyData)) : Prop := ∀ base O0 O σ H env ds, Sat K base O0 O σ H env → fr env = some ds → ∀ Q : List (V × V) → Hp → Prop, (∀ vs H', Ex H H' → ks.length = vs.length → RpAll K (vis O H') vs ds → Q ((kvV ks vs).map fun kv => (kV kv.1, kv.2)) H') → tPairs l σ H Q
def eDict (ks : List Str) (fr : PL.Env → Option (List PyData)) : PL.Env → Option PyData := fun env => (fr env).map fun ds => .dict (kvP ks ds)
section
variable {K : PySem.W.Frag} {l : List (TE × TE)} {ks : List Str} {fr : PL.Env → Option (List PyData)} {tv : TE} {f : PL.Env → Option PyData}
theorem den_pnil : DenPs K [] [] aNil := by
  intro base O0 O σ H env ds S e Q q
  cases e
  exact q [] H (Ex.refl H) rfl .nil
theorem den_pcons {k : Str} (h : DenP K tv f) (hr : DenPs K l ks fr) : DenPs K ((tC (.str k), tv) :: l) (k :: ks) (aCons f fr) := by
  intro base O0 O σ H env ds S e Q q
  unfold aCons at e
  cases k1 : f env with
  | none => simp [k1] at e
  | some x =>
    cases k2 : fr env with
    | none => simp [k1, k2] at e
    | some xs =>
      simp only [k1, k2, Option.bind_some, Option.map_some] at e
      cases e
      show tv σ H _
      refine h base O0 O σ H env _ S k1 _ fun v H1 x1 r1 => ?_
      refine hr base O0 O σ H1 env _ (S.mono x1) k2 _ fun vs H2 x2 hl r2 => ?_
      exact q (v :: vs) H2 (x1.trans x2) (by rw [List.length_cons, List.length_cons, hl]) (.cons (r1.mono (vis_mono x2)) r2)
theorem den_dict (hn : ks.Nodup) (h15 : ks.length ≤ 15) (h : DenPs K l ks fr) : DenP K (tDisp l) (eDict ks fr) := by
  intro base O0 O σ H env d S e Q q
  unfold eDict at e
  cases k1 : fr env with
  | none => simp [k1] at e
  | some ds =>
    simp only [k1, Option.map_some] at e
    cases e
    intro p hp
    have S1 := S.hide (D := p) (H' := upd H p (.dK [])) hp (Ex.new hp) (by rw [upd_same]; exact fun z => nomatch z)
    refine h base O0 (hid O p) σ _ env ds S1 k1 _ fun vs H2 x2 hl r => ?_
    have h2 : H2 p = some (.dK []) := x2 p _ upd_same
    refine ⟨h2, kvV ks vs, rfl, ?_, ?_⟩
    · unfold kvV
      rw [List.length_map, List.length_zip]
      omega
    · have hm : mergeK [] (kvV ks vs) = kvV ks vs := by
        unfold mergeK
        rw [merge_new _ [] (by rw [List.nil_append, kvV_keys hl]; exact keys_nd hn)]
        rfl
      rw [hm]
      have op : O p = false := by
        cases z : O p with
        | false => rfl
        | true => exact absurd hp (S.all p z)
      have e1 : Ex H (upd H2 p (.dK (kvV ks vs))) := fun a o ha => by
        have ne : a ≠ p := ne_of_none ha hp
        rw [upd_ne ne]
        exact x2 a o (by rw [upd_ne ne]; exact ha)
      refine q _ _ e1 (.dic (vis_at op upd_same) hl (r.mono fun a o ha => ?_))
      have hid1 : hid O p a = false := by
        cases z : hid O p a with
        | false => rfl
        | true =>
          unfold vis at ha
          rw [if_pos z] at ha
          cases ha
      have ha2 := vis_le _ _ ha
      unfold hid at hid1
      rw [Bool.or_eq_false_iff] at hid1
      exact vis_at hid1.1 (by rw [upd_ne (of_decide_eq_false hid1.2)]; exact ha2)
end
section
variable {K : PySem.W.Frag} {X : Cx} {l : List (TE × TE)} {ks : List Str} {fr : PL.Env → Option (List PyData)} {tv : TE} {f : PL.Env → Option PyData} {keys : List (Option Expr)} {vals : List Expr} {e : Expr} {pos p2 : Pos}
structure EPs (K : PySem.W.Frag) (X : Cx) (pos : Pos) (keys : List (Option Expr)) (vals : List Expr) (l : List (TE × TE)) (ks : List Str) (fr : PL.Env → Option (List PyData)) : Prop where
  pe : PPs X pos keys vals l
  de : DenPs K l ks fr
theorem kN : EPs K X pos [] [] [] [] aNil := ⟨pps_nil, den_pnil⟩
theorem kC {k : Str} {j} (h : EP K X e tv f) (hr : EPs K X pos keys vals l ks fr) : EPs K X pos (some (.Constant (.str k) j p2) :: keys) (e :: vals) ((tC (.str k), tv) :: l) (k :: ks) (aCons f fr) := ⟨pps_cons pe_str h.pe hr.pe, den_pcons h.de hr.de⟩
theorem dDict (h : EPs K X pos keys vals l ks fr) (hn : ks.Nodup := by decide +kernel) (h15 : ks.length ≤ 15 := by decide) (hall : keys.all (·.isSome) = true := by rfl) (hl : keys.length = vals.length := by rfl) (h0 : keys ≠ [] := by exact fun z => nomatch z) (hk : keys.length ≤ 15 := by decide) : EP K X (.Dict keys vals pos) (tDisp l) (eDict ks fr) :=
  ⟨pe_disp h.pe hall hl h0 hk, den_dict hn h15 h.de⟩
end
end PL
/-! What the laws share that speaks of no def of theirs. -/
namespace PR
open PySem L2 PySem.Spec PyProof.Rows PL
theorem te2r_ev {a b : PL.Env → Option PyData} {env : PL.Env} {g : PyData → PyData → Option PyData} {x y : PyData} {t : Bool} (ha : a env = some x) (hb : b env = some y) (h : g x y = some (.bool t)) : tE (e2 g a b) env = some t := by
  unfold tE e2
  rw [ha, hb, Option.bind_some, Option.bind_some, h]
  rfl
def callT (t : Int) (n : Nat) : List Nat := (List.range n).map fun (j : Nat) => 97 + ((t + 5 * (j : Int) * (1 + t % 3)) % 26).toNat
def callL (c : Int) (k : Nat) (sg : List Nat) : List Nat :=
  let t := c + 31 * (k : Int) * (c % 2)
  let n := (t / 26 % (9 - (sg.length : Int))).toNat
  let p := if c % 2 = 0 then (c / 4 % ((n : Int) + 1)).toNat else n
  (callT t n).take p ++ sg ++ (callT t n).drop p
theorem letter_at (i : Int) (h0 : 0 ≤ i) (h1 : i < 26) : gIx (.str "abcdefghijklmnopqrstuvwxyz") (.int i) = some (.str ⟨#[97 + i.toNat]⟩) := by
  obtain ⟨n, rfl⟩ := Int.eq_ofNat_of_zero_le h0
  have hn : n < 26 := by omega
  have : ∀ n : Nat, n < 26 → atI (Str.ofString "abcdefghijklmnopqrstuvwxyz").cps.toList ((n : Nat) : Int) = some (97 + ((n : Nat) : Int).toNat) := by decide +kernel
  show (if (Str.ofString "abcdefghijklmnopqrstuvwxyz").length ≤ 100000 then (atI (Str.ofString "abcdefghijklmnopqrstuvwxyz").cps.toList ((n : Nat) : Int)).map fun c => PyData.str ⟨#[c]⟩ else none) = _
  rw [if_pos (by decide +kernel), this n hn]
  rfl
theorem eqs_ev {a b : PL.Env → Option PyData} {env : PL.Env} {n : Str} {w : Option Str} (ha : a env = some (.str n)) (hb : b env = some (optD w)) (h1 : PyData.strOk n = true) (h2 : ∀ x, w = some x → PyData.strOk x = true) : tE (e2 gEq a b) env = some (decide (w = some n)) := by
  unfold tE e2
  rw [ha, hb]
  cases w with
  | none =>
    show (if SeqAt.shaped (.str n) && SeqAt.shaped .none then some (PyData.bool (PyData.eqv (.str n) .none)) else none).bind asB = _
    rw [shaped_str h1, shaped_none]
    rfl
  | some x =>
    show (if SeqAt.shaped (.str n) && SeqAt.shaped (.str x) then some (PyData.bool (PyData.eqv (.str n) (.str x))) else none).bind asB = _
    rw [shaped_str h1, shaped_str (h2 x rfl), eqv_str]
    show some (decide (n = x)) = some (decide (some x = some n))
    congr 1
    exact decide_eq_decide.mpr ⟨fun h => by rw [h], fun h => (Option.some.inj h).symm⟩
theorem all_rev {ps : List (Str × Option Str)} (h : ps.all okP = true) : ps.reverse.all okP = true := by
  rw [List.all_reverse]
  exact h
def manyM (ns : List Int) : Nat := (if ns.getD 0 0 / 4 % 8 = 1 then 12 - ns.getD 0 0 / 32 % 8 else 1 + ns.getD 0 0 % 4).toNat
def nameM (ns : List Int) (k : Nat) : Str := ⟨(callL (ns.getD 1 0 / 3) k [97 + k]).toArray⟩
def pickM (ns : List Int) (k : Nat) : Int := if ns.getD 1 0 % 4 = 3 ∧ 0 < k then (k : Int) - 1 else (ns.getD 1 0 + 7 * (k : Int)) * 48271 % 10007 % ((k : Int) + 1)
def plotM (ns : List Int) (k : Nat) : Str × Option Str := (nameM ns k, if pickM ns k < k then some (nameM ns (pickM ns k).toNat) else none)
def plotsM (ns : List Int) : List (Str × Option Str) := (List.range (manyM ns)).map (plotM ns)
theorem manyM_le (ns : List Int) : 1 ≤ manyM ns ∧ manyM ns ≤ 12 := by
  unfold manyM
  split <;> omega
theorem pickM_nn (ns : List Int) (k : Nat) : 0 ≤ pickM ns k := by
  unfold pickM
  split
  · omega
  · exact Int.emod_nonneg _ (by omega)
theorem abc_at (k : Nat) (h : k < 12) : atI (Str.ofString "abcdefghijkl").cps.toList ((k : Nat) : Int) = some (97 + k) := by
  have : ∀ n : Nat, n < 12 → atI (Str.ofString "abcdefghijkl").cps.toList ((n : Nat) : Int) = some (97 + n) := by decide +kernel
  exact this k h
theorem callT_low {t : Int} {n : Nat} {c : Nat} (h : c ∈ callT t n) : 97 ≤ c ∧ c ≤ 122 := by
  unfold callT at h
  obtain ⟨j, _, rfl⟩ := List.mem_map.mp h
  have h1 := Int.emod_nonneg (t + 5 * (j : Int) * (1 + t % 3)) (show (26 : Int) ≠ 0 by omega)
  have h2 := Int.emod_lt_of_pos (t + 5 * (j : Int) * (1 + t % 3)) (show (0 : Int) < 26 by omega)
  omega
theorem callL_low {c : Int} {k : Nat} {sg : List Nat} (hs : ∀ x ∈ sg, 97 ≤ x ∧ x ≤ 122) : ∀ x ∈ callL c k sg, 97 ≤ x ∧ x ≤ 122 := by
  intro x h
  unfold callL at h
  simp only [List.mem_append] at h
  rcases h with (h | h) | h
  · exact callT_low (List.mem_of_mem_take h)
  · exact hs x h
  · exact callT_low (List.mem_of_mem_drop h)
theorem strOk_of {z : Str} (h : ∀ c ∈ cs z, 97 ≤ c ∧ c ≤ 122) : PyData.strOk z = true := by
  unfold PyData.strOk
  rw [← Array.all_toList, List.all_eq_true]
  intro c m
  have := h c m
  simp
  omega
theorem nameM_ok (ns : List Int) (k : Nat) (hk : k < 26) : PyData.strOk (nameM ns k) = true := strOk_of (callL_low (c := ns.getD 1 0 / 3) (k := k) (sg := [97 + k]) fun x h => by
  rw [List.mem_singleton] at h
  omega)
theorem callL_inj {c : Int} {i j a b : Nat} (h : callL c i [a] = callL c j [b]) : a = b := by
  unfold callL at h
  simp only [List.length_singleton] at h
  by_cases he : c % 2 = 0
  · simp only [he, Int.mul_zero, Int.add_zero, if_pos] at h
    have h1 := List.append_cancel_right h
    exact (List.cons.inj (List.append_cancel_left h1)).1
  · simp only [if_neg he] at h
    have ht : ∀ t n, (callT t n).take n = callT t n ∧ (callT t n).drop n = [] := fun t n => by
      have : (callT t n).length = n := by unfold callT; rw [List.length_map, List.length_range]
      exact ⟨List.take_of_length_le (by omega), List.drop_eq_nil_of_le (by omega)⟩
    rw [(ht _ _).1, (ht _ _).2, (ht _ _).1, (ht _ _).2, List.append_nil, List.append_nil] at h
    have := congrArg List.getLast? h
    rw [List.getLast?_concat, List.getLast?_concat] at this
    exact Option.some.inj this
theorem nameM_inj {ns : List Int} {i j : Nat} (h : nameM ns i = nameM ns j) : i = j := by
  have h1 := congrArg cs h
  have h2 : callL (ns.getD 1 0 / 3) i [97 + i] = callL (ns.getD 1 0 / 3) j [97 + j] := h1
  have := callL_inj h2
  omega
theorem plots_names (ns : List Int) : (plotsM ns).map (·.1) = (List.range (manyM ns)).map (nameM ns) := by
  unfold plotsM
  rw [List.map_map]
  rfl
theorem plots_nodup (ns : List Int) : ((plotsM ns).map (·.1)).Nodup := by
  rw [plots_names]
  have : ∀ l : List Nat, l.Nodup → (l.map (nameM ns)).Nodup := fun l hl => by
    induction l with
    | nil => exact List.nodup_nil
    | cons a r ih =>
      rw [List.nodup_cons] at hl
      rw [List.map_cons, List.nodup_cons]
      exact ⟨fun m => by
        obtain ⟨b, mb, e⟩ := List.mem_map.mp m
        rw [nameM_inj e] at mb
        exact hl.1 mb, ih hl.2⟩
  exact this _ List.nodup_range
theorem plots_ok (ns : List Int) : (plotsM ns).all okP = true := by
  rw [List.all_eq_true]
  intro q m
  unfold plotsM at m
  obtain ⟨i, mi, rfl⟩ := List.mem_map.mp m
  rw [List.mem_range] at mi
  have hm := manyM_le ns
  unfold okP plotM
  rw [Bool.and_eq_true]
  refine ⟨nameM_ok ns i (by omega), ?_⟩
  split
  · rfl
  · rename_i o e
    simp only at e
    split at e
    · cases e
      rename_i hp
      have := pickM_nn ns i
      exact nameM_ok ns _ (by omega)
    · cases e
theorem plots_len (ns : List Int) : (plotsM ns).length = manyM ns := by
  unfold plotsM
  rw [List.length_map, List.length_range]
def chN (ns : List Int) (n i : Nat) : List Str := outGo ((List.range n).map (plotM ns)).reverse (some (nameM ns i))
theorem outGo_none : ∀ l : List (Str × Option Str), outGo l none = []
  | [] => rfl
  | q :: r => by
    show (if (none : Option Str) = some q.1 then _ else outGo r none) = []
    rw [if_neg (by intro z; cases z), outGo_none r]
theorem chN_succ (ns : List Int) (n i : Nat) : chN ns (n + 1) i = if i = n then nameM ns n :: (if pickM ns n < n then chN ns n (pickM ns n).toNat else []) else chN ns n i := by
  unfold chN
  rw [List.range_succ, List.map_append, List.reverse_append]
  show (if some (nameM ns i) = some (plotM ns n).1 then (plotM ns n).1 :: outGo ((List.range n).map (plotM ns)).reverse (plotM ns n).2 else outGo ((List.range n).map (plotM ns)).reverse (some (nameM ns i))) = _
  by_cases h : i = n
  · rw [if_pos (by rw [h]; rfl), if_pos h]
    show nameM ns n :: outGo _ (if pickM ns n < n then some (nameM ns (pickM ns n).toNat) else none) = _
    by_cases hp : pickM ns n < n
    · rw [if_pos hp, if_pos hp]
    · rw [if_neg hp, if_neg hp, outGo_none]
  · rw [if_neg (show ¬ some (nameM ns i) = some (plotM ns n).1 from fun e => h (nameM_inj (Option.some.inj e))), if_neg h]
theorem chN_stab (ns : List Int) (n i : Nat) (hi : i < n) : chN ns n i = chN ns (i + 1) i := by
  induction n with
  | zero => omega
  | succ n ih =>
    by_cases h : i = n
    · rw [h]
    · rw [chN_succ, if_neg h, ih (by omega)]
theorem out_chN (ns : List Int) (i : Nat) : outM (plotsM ns) (nameM ns i) = chN ns (manyM ns) i := rfl
theorem chain_rec (ns : List Int) (i : Nat) (hi : i < manyM ns) : outM (plotsM ns) (nameM ns i) = nameM ns i :: (if pickM ns i < i then outM (plotsM ns) (nameM ns (pickM ns i).toNat) else []) := by
  rw [out_chN, chN_stab ns _ i hi, chN_succ, if_pos rfl]
  congr 1
  by_cases hp : pickM ns i < i
  · rw [if_pos hp, if_pos hp, out_chN]
    have := pickM_nn ns i
    rw [chN_stab ns i _ (by omega), chN_stab ns (manyM ns) _ (by omega)]
  · rw [if_neg hp, if_neg hp]
theorem chain_root (ns : List Int) : ∀ i : Nat, i < manyM ns → ∃ j, j < manyM ns ∧ nameM ns j ∈ outM (plotsM ns) (nameM ns i) ∧ ¬ pickM ns j < j := by
  intro i
  induction i using Nat.strongRecOn with
  | ind i ih =>
    intro hi
    rw [chain_rec ns i hi]
    by_cases hp : pickM ns i < i
    · have hn := pickM_nn ns i
      obtain ⟨j, h1, h2, h3⟩ := ih (pickM ns i).toNat (by omega) (by omega)
      exact ⟨j, h1, by rw [if_pos hp]; exact List.mem_cons_of_mem _ h2, h3⟩
    · exact ⟨i, hi, List.mem_cons_self .., hp⟩
def rowD : PL.Row → List PyData
  | .open_ p => [.str "open", .str p]
  | .lay n p z => [.str "lay", .str n, .str p, .int z]
  | .copy n o p => [.str "copy", .str n, .str o, .str p]
  | .same n o => [.str "same", .str n, .str o]
  | .add n o => [.str "add", .str n, .str o]
  | .tell n => [.str "tell", .str n]
  | .give p => [.str "give", .str p]
  | .fork k => [.str "fork", .int k]
  | .go k => [.str "go", .int k]
  | .end_ => [.str "end"]
theorem encR_rowD (r : PL.Row) : encR r = .tuple (rowD r) := by cases r <;> rfl
def wordR : PL.Row → Str
  | .open_ _ => "open" | .lay .. => "lay" | .copy .. => "copy" | .same .. => "same" | .add .. => "add" | .tell _ => "tell" | .give _ => "give" | .fork _ => "fork" | .go _ => "go" | .end_ => "end"
theorem wordR_ok : ∀ r : PL.Row, PyData.strOk (wordR r) = true
  | .open_ _ => (by decide +kernel : PyData.strOk "open" = true)
  | .lay .. => (by decide +kernel : PyData.strOk "lay" = true)
  | .copy .. => (by decide +kernel : PyData.strOk "copy" = true)
  | .same .. => (by decide +kernel : PyData.strOk "same" = true)
  | .add .. => (by decide +kernel : PyData.strOk "add" = true)
  | .tell _ => (by decide +kernel : PyData.strOk "tell" = true)
  | .give _ => (by decide +kernel : PyData.strOk "give" = true)
  | .fork _ => (by decide +kernel : PyData.strOk "fork" = true)
  | .go _ => (by decide +kernel : PyData.strOk "go" = true)
  | .end_ => (by decide +kernel : PyData.strOk "end" = true)
def textsR : PL.Row → List Str
  | .open_ p => [p] | .lay n p _ => [n, p] | .copy n o p => [n, o, p] | .same n o => [n, o] | .add n o => [n, o] | .tell n => [n] | .give p => [p] | _ => []
theorem eqz_ev {a b : PL.Env → Option PyData} {env : PL.Env} {w z : Str} (ha : a env = some (.str w)) (hb : b env = some (.str z)) (hw : PyData.strOk w = true) (hz : PyData.strOk z = true) : tE (e2 gEq a b) env = some (decide (w = z)) := by
  refine te2r_ev ha hb ?_
  show (if SeqAt.shaped (.str w) && SeqAt.shaped (.str z) then some (PyData.bool (PyData.eqv (.str w) (.str z))) else none) = _
  rw [shaped_str hw, shaped_str hz, eqv_str]
  rfl
theorem nez_ev {a b : PL.Env → Option PyData} {env : PL.Env} {w z : Str} (ha : a env = some (.str w)) (hb : b env = some (.str z)) (hw : PyData.strOk w = true) (hz : PyData.strOk z = true) : tE (e2 gNe a b) env = some (!decide (w = z)) := by
  refine te2r_ev ha hb ?_
  show (if SeqAt.shaped (.str w) && SeqAt.shaped (.str z) then some (PyData.bool (!PyData.eqv (.str w) (.str z))) else none) = _
  rw [shaped_str hw, shaped_str hz, eqv_str]
  rfl
theorem in_strs {neg : Bool} {x : Str} {l : List Str} (hx : PyData.strOk x = true) (hl : ∀ y ∈ l, PyData.strOk y = true) : gInL neg (.str x) (.list (l.map PyData.str)) = some (.bool (if neg then !decide (x ∈ l) else decide (x ∈ l))) := by
  unfold gInL
  have h1 : SeqAt.shaped (.list (l.map PyData.str)) = true := (fit_list (n := 0) fun d m => by
    obtain ⟨y, my, rfl⟩ := List.mem_map.mp m
    exact fit_str 0 (hl y my)).sh (by omega)
  show (if SeqAt.shaped (.str x) && SeqAt.shaped (.list (l.map PyData.str)) then some (PyData.bool (if neg then !(l.map PyData.str).any fun z => PyData.eqv z (.str x) else (l.map PyData.str).any fun z => PyData.eqv z (.str x))) else none) = _
  rw [shaped_str hx, h1]
  have h2 : ((l.map PyData.str).any fun z => PyData.eqv z (.str x)) = decide (x ∈ l) := by
    rw [List.any_map, Bool.eq_iff_iff, List.any_eq_true, decide_eq_true_eq]
    constructor
    · rintro ⟨y, my, e⟩
      have e' : PyData.eqv (.str y) (.str x) = true := e
      rw [eqv_str] at e'
      rw [← of_decide_eq_true e']
      exact my
    · intro m
      refine ⟨x, m, ?_⟩
      show PyData.eqv (.str x) (.str x) = true
      rw [eqv_str]
      simp
  rw [h2]
  rfl
theorem ins_ev {neg : Bool} {a b : PL.Env → Option PyData} {env : PL.Env} {x : Str} {l : List Str} (ha : a env = some (.str x)) (hb : b env = some (.list (l.map PyData.str))) (hx : PyData.strOk x = true) (hl : ∀ y ∈ l, PyData.strOk y = true) : tE (e2 (gInL neg) a b) env = some (if neg then !decide (x ∈ l) else decide (x ∈ l)) := by
  unfold tE e2
  rw [ha, hb, Option.bind_some, Option.bind_some, in_strs hx hl]
  rfl
theorem ret_seq {t : PL.Env → Option Bool} {d : PyData} {R : PL.Env → Option Out} {env : PL.Env} {b : Bool} (h : t env = some b) : sSeq (sIf t (sRet (eC d)) sNext) R env = if b then some (.rt d) else R env := by
  rw [if_seq h]
  cases b <;> rfl
theorem callN2_ev {f : List PyData → Option (List PyData)} {a b : PL.Env → Option PyData} {env : PL.Env} {x y : PyData} {ds : List PyData} (ha : a env = some x) (hb : b env = some y) (h : f [x, y] = some ds) : eL (fun env => ((aCons a (aCons b aNil)) env).bind fun ds => if ds.length = 2 then f ds else none) env = some (.list ds) := by
  show Option.map PyData.list (((a env).bind fun d => ((b env).bind fun d2 => some [d2]).bind fun ds => some (d :: ds)).bind fun ds => if ds.length = 2 then f ds else none) = _
  rw [ha, hb]
  show (f [x, y]).map PyData.list = _
  rw [h]
  rfl
theorem eif_ev {t : PL.Env → Option Bool} {a b : PL.Env → Option PyData} {env : PL.Env} {d : PyData} {k : Bool} (ht : t env = some k) (ha : k = true → a env = some d) (hb : k = false → b env = some d) : eIf t a b env = some d := by
  unfold eIf
  rw [ht, Option.bind_some]
  cases k with
  | true => exact ha rfl
  | false => exact hb rfl
theorem eL_ev {f : PL.Env → Option (List PyData)} {env : PL.Env} {xs : List PyData} (h : f env = some xs) : eL f env = some (.list xs) := by
  unfold eL
  rw [h]
  rfl
theorem lrev_ev {a : PL.Env → Option PyData} {env : PL.Env} {xs : List PyData} (h : a env = some (.list xs)) : eL (nRev a) env = some (.list xs.reverse) := by
  unfold eL nRev
  rw [h]
  rfl
theorem inV_strs (x : Str) (l : List Str) : inV (.str x) (l.map V.str) = decide (x ∈ l) := by
  unfold inV
  rw [List.any_map, Bool.eq_iff_iff, List.any_eq_true]
  simp only [decide_eq_true_eq, Function.comp]
  constructor
  · rintro ⟨y, m, e⟩
    have : y = x := by
      have e' : (y == x) = true := e
      exact beq_iff_eq.mp e'
    rw [← this]
    exact m
  · intro m
    exact ⟨x, m, beq_iff_eq.mpr rfl⟩
theorem lenl_ev {f : PL.Env → Option PyData} {env : PL.Env} {ds : List PyData} (h : f env = some (.list ds)) : eA gLen (aCons f aNil) env = some (.int (ds.length : Int)) := by
  unfold eA aCons aNil
  rw [h]
  rfl
theorem tup_ev {f : PL.Env → Option (List PyData)} {env : PL.Env} {ds : List PyData} (h : f env = some ds) (hl : ds.length ≤ 100000) : eTup f env = some (.tuple ds) := by
  unfold eTup short
  rw [h, Option.bind_some, if_pos hl]
  rfl
theorem lst_ev {f : PL.Env → Option (List PyData)} {env : PL.Env} {ds : List PyData} (h : f env = some ds) (hl : ds.length ≤ 100000) : eL (nLst f) env = some (.list ds) := by
  unfold eL nLst short
  rw [h, Option.bind_some, if_pos hl]
  rfl
theorem acons_ev {f : PL.Env → Option PyData} {g : PL.Env → Option (List PyData)} {env : PL.Env} {d : PyData} {ds : List PyData} (h : f env = some d) (h2 : g env = some ds) : aCons f g env = some (d :: ds) := by
  unfold aCons
  rw [h, Option.bind_some, h2]
  rfl
theorem anil_ev {env : PL.Env} : aNil env = some [] := rfl
def moreM (c : Int) : Int := (c / 10 * 48271 + 11) % 1000003
def pickS (l : List Str) (i : Int) : Str := l.getD (i % l.length).toNat ""
def rowM (ps : List (Str × Option Str)) (nms : List Str) (c sz : Int) : PL.Row :=
  match (c % 10).toNat with
  | 0 => .open_ (pickS (ps.map (·.1)) (moreM c / 61))
  | 1 => .lay (pickS nms (moreM c)) (pickS (ps.map (·.1)) (moreM c / 61)) (if moreM c % 4 = 1 then c / 10 % 2000000000000000001 - 1000000000000000000 else c / 10 % 19 - 9)
  | 2 => .copy (pickS nms (moreM c)) (pickS nms (moreM c / 7)) (pickS (ps.map (·.1)) (moreM c / 61))
  | 3 => .same (pickS nms (moreM c)) (pickS nms (moreM c / 7))
  | 4 => .add (pickS nms (moreM c)) (pickS nms (moreM c / 7))
  | 5 => .tell (pickS nms (moreM c))
  | 6 => .give (pickS (ps.map (·.1)) (moreM c / 61))
  | 7 => .fork (moreM c / 1013 % (sz + 1))
  | 8 => .go (moreM c / 1013 % (sz + 1))
  | _ => .end_
theorem pickS_mem {l : List Str} {i : Int} (h : 0 < l.length) : pickS l i ∈ l := by
  unfold pickS
  have h1 := Int.emod_nonneg i (show (l.length : Int) ≠ 0 by omega)
  have h2 := Int.emod_lt_of_pos i (show (0 : Int) < l.length by omega)
  rw [List.getD_eq_getElem?_getD, List.getElem?_eq_getElem (by omega)]
  exact List.getElem_mem _
theorem pickS_at {α : Type} {l : List α} {i : Int} {g : α → Str} (h : 0 < l.length) : ∃ q ∈ l, atI l (i % l.length) = some q ∧ g q = pickS (l.map g) i := by
  have h1 := Int.emod_nonneg i (show (l.length : Int) ≠ 0 by omega)
  have h2 := Int.emod_lt_of_pos i (show (0 : Int) < l.length by omega)
  obtain ⟨n, hn⟩ := Int.eq_ofNat_of_zero_le h1
  have hlt : n < l.length := by omega
  refine ⟨l[n], List.getElem_mem _, ?_, ?_⟩
  · rw [hn]
    exact atI_nat' (List.getElem?_eq_getElem hlt)
  · unfold pickS
    rw [List.length_map, hn, Int.toNat_natCast, List.getD_eq_getElem?_getD, List.getElem?_map, List.getElem?_eq_getElem hlt]
    rfl
theorem pick_ev {a b : PL.Env → Option PyData} {env : PL.Env} {l : List Str} {i : Int} (ha : a env = some (.list (l.map PyData.str))) (hb : b env = some (.int i)) (h : 0 < l.length) : e2 gIx a (e2 (gIC cMod (· % ·)) b (eA gLen (aCons a aNil))) env = some (.str (pickS l i)) := by
  refine ix_ev ha (mod_ev hb (lenl_ev ha) (by rw [List.length_map]; omega)) ?_
  obtain ⟨q, m, e, g⟩ := pickS_at (i := i) (g := fun x => x) h
  rw [List.length_map]
  have h1 := Int.emod_nonneg i (show (l.length : Int) ≠ 0 by omega)
  obtain ⟨n, hn⟩ := Int.eq_ofNat_of_zero_le h1
  have h2 := Int.emod_lt_of_pos i (show (0 : Int) < l.length by omega)
  rw [hn]
  refine atI_nat' ?_
  rw [List.getElem?_map]
  unfold pickS
  rw [hn, Int.toNat_natCast, List.getD_eq_getElem?_getD, List.getElem?_eq_getElem (by omega)]
  rfl
theorem pickp_ev {a b : PL.Env → Option PyData} {env : PL.Env} {l : List (Str × Option Str)} {i : Int} (ha : a env = some (encPs l)) (hb : b env = some (.int i)) (h : 0 < l.length) : e2 gIx (e2 gIx a (e2 (gIC cMod (· % ·)) b (eA gLen (aCons a aNil)))) (eC (.int 0)) env = some (.str (pickS (l.map (·.1)) i)) := by
  have h1 := Int.emod_nonneg i (show (l.length : Int) ≠ 0 by omega)
  obtain ⟨n, hn⟩ := Int.eq_ofNat_of_zero_le h1
  have h2 := Int.emod_lt_of_pos i (show (0 : Int) < l.length by omega)
  have hlt : n < l.length := by omega
  have hp : pickS (l.map (·.1)) i = l[n].1 := by
    unfold pickS
    rw [List.length_map, hn, Int.toNat_natCast, List.getD_eq_getElem?_getD, List.getElem?_map, List.getElem?_eq_getElem hlt]
    rfl
  refine ixt_ev (ds := [.str l[n].1, optD l[n].2]) (i := 0) (ix_ev (ds := l.map encP) ha (mod_ev hb (lenl_ev (ds := l.map encP) ha) (by rw [List.length_map]; omega)) ?_) rfl ?_
  · rw [List.length_map, hn]
    refine atI_nat' ?_
    rw [List.getElem?_map, List.getElem?_eq_getElem hlt]
    rfl
  · rw [hp]
    rfl
def nmanyM (c : Int) : Nat := (if c / 5 % 16 = 3 then 60 else 1 + c % 5).toNat
def nmM (c : Int) (k : Nat) : Str := ⟨(callL (c / 80) k [97 + k / 26, 122 - k % 26]).toArray⟩
def namesM (ns : List Int) : List Str := if ns.getD 2 0 / 5 % 4 = 1 then ((plotsM ns).map (·.1)).take (nmanyM (ns.getD 2 0)) else (List.range (nmanyM (ns.getD 2 0))).map (nmM (ns.getD 2 0))
theorem nmany_le (c : Int) : 1 ≤ nmanyM c ∧ nmanyM c ≤ 60 := by
  unfold nmanyM
  split <;> omega
theorem names_len (ns : List Int) : 1 ≤ (namesM ns).length ∧ (namesM ns).length ≤ 60 := by
  have h := nmany_le (ns.getD 2 0)
  have h2 := manyM_le ns
  unfold namesM
  split
  · rw [List.length_take, List.length_map, plots_len]
    omega
  · rw [List.length_map, List.length_range]
    omega
theorem names_ok (ns : List Int) : ∀ x ∈ namesM ns, PyData.strOk x = true := by
  intro x m
  have h := nmany_le (ns.getD 2 0)
  unfold namesM at m
  split at m
  · obtain ⟨q, mq, rfl⟩ := List.mem_map.mp (List.mem_of_mem_take m)
    have := List.all_eq_true.mp (plots_ok ns) q mq
    unfold okP at this
    rw [Bool.and_eq_true] at this
    exact this.1
  · obtain ⟨k, mk, rfl⟩ := List.mem_map.mp m
    rw [List.mem_range] at mk
    refine strOk_of (callL_low (c := ns.getD 2 0 / 80) (k := k) (sg := [97 + k / 26, 122 - k % 26]) fun x h => ?_)
    simp only [List.mem_cons, List.not_mem_nil, or_false] at h
    omega
theorem abc3_at (k : Nat) (h : k < 3) : atI (Str.ofString "abc").cps.toList ((k : Nat) : Int) = some (97 + k) := by
  have : ∀ n : Nat, n < 3 → atI (Str.ofString "abc").cps.toList ((n : Nat) : Int) = some (97 + n) := by decide +kernel
  exact this k h
theorem zyx_at (k : Nat) (h : k < 26) : atI (Str.ofString "zyxwvutsrqponmlkjihgfedcba").cps.toList ((k : Nat) : Int) = some (122 - k) := by
  have : ∀ n : Nat, n < 26 → atI (Str.ofString "zyxwvutsrqponmlkjihgfedcba").cps.toList ((n : Nat) : Int) = some (122 - n) := by decide +kernel
  exact this k h
theorem cutD_to (ds : List PyData) (k : Nat) : PL.cutD ds none (some (k : Int)) = ds.take k := by
  unfold PL.cutD
  have h0 : HT.sIx ds.length 0 none = 0 := rfl
  rw [h0, List.drop_zero, Nat.sub_zero]
  have : HT.sIx ds.length ds.length (some (k : Int)) = min k ds.length := by
    unfold HT.sIx
    simp only
    split <;> omega
  rw [this, Nat.min_comm, List.take_eq_take_iff]
  omega
theorem strix_ev {a b : PL.Env → Option PyData} {env : PL.Env} {z : Str} {i : Int} {c : Nat} (ha : a env = some (.str z)) (hb : b env = some (.int i)) (hl : z.length ≤ 100000) (h : atI z.cps.toList i = some c) : e2 gIx a b env = some (.str ⟨#[c]⟩) := by
  unfold e2
  rw [ha, hb]
  show (if z.length ≤ 100000 then (atI z.cps.toList i).map fun c => PyData.str ⟨#[c]⟩ else none) = _
  rw [if_pos hl, h]
  rfl
theorem cutD_from (ds : List PyData) (k : Nat) : PL.cutD ds (some (k : Int)) none = ds.drop k := by
  unfold PL.cutD
  rw [HT.sIx_none, HT.sIx_nat]
  by_cases h : k ≤ ds.length
  · rw [Nat.min_eq_left h, List.take_of_length_le]
    rw [List.length_drop]
    exact Nat.le_refl _
  · rw [Nat.min_eq_right (by omega), Nat.sub_self, List.take_zero, List.drop_eq_nil_of_le (by omega)]
theorem flat_strs : ∀ l : List Str, flatDs (l.map PyData.str) = some (l.map V.str)
  | [] => rfl
  | x :: l => by
    show (flatDs (l.map PyData.str)).map _ = _
    rw [flat_strs l]
    rfl
theorem int_ev {neg : Bool} {a b : PL.Env → Option PyData} {env : PL.Env} {x : Str} {l : List Str} (ha : a env = some (.str x)) (hb : b env = some (.tuple (l.map PyData.str))) : tE (e2 (gInT neg) a b) env = some (if neg then !decide (x ∈ l) else decide (x ∈ l)) := by
  refine te2r_ev ha hb ?_
  show (flatDs (l.map PyData.str)).bind (fun vs => some (PyData.bool (if neg then !inV (V.str x) vs else inV (V.str x) vs))) = _
  rw [flat_strs, Option.bind_some, inV_strs]
theorem word_ev {a : PL.Env → Option PyData} {env : PL.Env} {r : PL.Row} (h : a env = some (encR r)) : e2 gIx a (eC (.int 0)) env = some (.str (wordR r)) := by
  rw [encR_rowD] at h
  exact ixt_ev (i := 0) h rfl (by cases r <;> rfl)
theorem row_texts {ps : List (Str × Option Str)} {nms : List Str} (h1 : 0 < ps.length) (h2 : 0 < nms.length) (hp : ps.all okP = true) (hn : ∀ x ∈ nms, PyData.strOk x = true) (c sz : Int) : ∀ x ∈ textsR (rowM ps nms c sz), PyData.strOk x = true := by
  have hn' : ∀ i, PyData.strOk (pickS nms i) = true := fun i => hn _ (pickS_mem h2)
  have hp' : ∀ i, PyData.strOk (pickS (ps.map (·.1)) i) = true := fun i => by
    obtain ⟨q, mq, e⟩ := List.mem_map.mp (pickS_mem (l := ps.map (·.1)) (i := i) (by rw [List.length_map]; exact h1))
    rw [← e]
    have := List.all_eq_true.mp hp q mq
    unfold okP at this
    rw [Bool.and_eq_true] at this
    exact this.1
  unfold rowM
  split <;> (intro x m; simp only [textsR, List.mem_cons, List.not_mem_nil, or_false] at m)
  all_goals first | (rcases m with rfl | rfl | rfl <;> first | exact hn' _ | exact hp' _) | (rcases m with rfl | rfl <;> first | exact hn' _ | exact hp' _) | (subst m; first | exact hn' _ | exact hp' _) | exact absurd m (by simp)
theorem get_of_mem' {α : Type} {os : List (Str × α)} {q : Str × α} (nd : (os.map (·.1)).Nodup) (m : q ∈ os) : getA os q.1 = some q.2 := by
  induction os with
  | nil => cases m
  | cons r t ih =>
    rw [List.map_cons, List.nodup_cons] at nd
    unfold getA at ih ⊢
    rcases List.mem_cons.mp m with e | m
    · rw [← e, List.find?_cons_of_pos (by simp)]
      rfl
    · have ne : ¬ r.1 = q.1 := fun e => nd.1 (e ▸ List.mem_map_of_mem m)
      rw [List.find?_cons_of_neg (by simp [ne])]
      exact ih nd.2 m
theorem mem_of_get {α : Type} {os : List (Str × α)} {x : Str} {v : α} (h : getA os x = some v) : (x, v) ∈ os := by
  unfold getA at h
  obtain ⟨q, hq, rfl⟩ := Option.map_eq_some_iff.mp h
  have m := List.mem_of_find?_eq_some hq
  have e := List.find?_some hq
  rw [← of_decide_eq_true e]
  exact m
theorem kb1 : kitB "int" "int" = some true := by decide +kernel
theorem kb2 : kitB "int" "bool" = some false := by decide +kernel
theorem kb3 : kitB "str" "str" = some true := by decide +kernel
theorem kb4 : kitB "list" "list" = some true := by decide +kernel
theorem ne_same {a b : PL.Env → Option PyData} {env : PL.Env} {d : PyData} (ha : a env = some d) (hb : b env = some d) (hf : SeqAt.shaped d = true) (hr : PyData.eqv d d = true) : tE (e2 gNe a b) env = some false := by
  unfold tE e2
  rw [ha, hb]
  show (if SeqAt.shaped d && SeqAt.shaped d then some (PyData.bool (!PyData.eqv d d)) else none).bind asB = _
  rw [hf, hr]
  rfl
theorem eqv_ints : ∀ l : List Int, PyData.eqv (.list (l.map PyData.int)) (.list (l.map PyData.int)) = true
  | [] => rfl
  | a :: l => by
    show (PyData.eqv (.int a) (.int a) && PyData.eqvAll (l.map PyData.int) (l.map PyData.int)) = true
    have := eqv_ints l
    have h2 : PyData.eqvAll (l.map PyData.int) (l.map PyData.int) = true := this
    rw [h2, eqv_int]
    simp
theorem fit_ints (l : List Int) : Fit 1 (.list (l.map PyData.int)) := fit_list fun d m => by
  obtain ⟨z, _, rfl⟩ := List.mem_map.mp m
  exact fit_int 0 z
theorem isi_ev {a : PL.Env → Option PyData} {env : PL.Env} {d : PyData} {n : String} {b : Bool} (ha : a env = some d) (h : gIsi n d = some (.bool b)) : tE (e1 (gIsi n) a) env = some b := by
  unfold tE e1
  rw [ha, Option.bind_some, h]
  rfl
theorem isi_str (z : Str) : gIsi "str" (.str z) = some (.bool true) := by
  show (kitB "str" "str").map PyData.bool = _
  rw [kb3]
  rfl
theorem isi_list (l : List PyData) : gIsi "list" (.list l) = some (.bool true) := by
  show (kitB "list" "list").map PyData.bool = _
  rw [kb4]
  rfl
theorem tN_ev {t : PL.Env → Option Bool} {env : PL.Env} {b : Bool} (h : t env = some b) : tN t env = some (!b) := by
  unfold tN
  rw [h]
  rfl
theorem six_ev {env : PL.Env} {ns : List Int} (h : env[0]? = some (.sh (scrD (ns.map PyData.int)))) : nSl (eVarO 0) (oSome (eC (.int 6))) oNone env = some ((ns.drop 6).map PyData.int) := by
  have h1 : eVarO 0 env = some (scrD (ns.map PyData.int)) := by
    unfold eVarO
    rw [h]
  unfold nSl
  rw [h1]
  show some (PL.cutD (ns.map PyData.int) (some ((6 : Nat) : Int)) none) = _
  rw [cutD_from, List.map_drop]
theorem callN1_ev {f : List PyData → Option (List PyData)} {a : PL.Env → Option PyData} {env : PL.Env} {x : PyData} {ds : List PyData} (ha : a env = some x) (h : f [x] = some ds) : eL (fun env => ((aCons a aNil) env).bind fun ds => if ds.length = 1 then f ds else none) env = some (.list ds) := by
  show Option.map PyData.list (((a env).bind fun d => some [d]).bind fun ds => if ds.length = 1 then f ds else none) = _
  rw [ha]
  show (f [x]).map PyData.list = _
  rw [h]
  rfl
theorem same_ev {a b : PL.Env → Option PyData} {env : PL.Env} {d : PyData} (ha : a env = some d) (hb : b env = some d) (hf : SeqAt.shaped d = true) (hr : PyData.eqv d d = true) : e2 gEq a b env = some (.bool true) := by
  unfold e2
  rw [ha, hb]
  show (if SeqAt.shaped d && SeqAt.shaped d then some (PyData.bool (PyData.eqv d d)) else none) = _
  rw [hf, hr]
  rfl
theorem call4_ev {f : List PyData → Option PyData} {a b c d : PL.Env → Option PyData} {env : PL.Env} {x y u v z : PyData} (ha : a env = some x) (hb : b env = some y) (hc : c env = some u) (hd : d env = some v) (h : f [x, y, u, v] = some z) : eA (fun ds => if ds.length = 4 then f ds else none) (aCons a (aCons b (aCons c (aCons d aNil)))) env = some z := by
  unfold eA
  rw [acons_ev ha (acons_ev hb (acons_ev hc (acons_ev hd anil_ev)))]
  exact h
theorem ext_nx {i : Nat} {f : PL.Env → Option PyData} {env : PL.Env} {ds es : List PyData} (h1 : env[i]? = some (.own ds)) (h2 : f env = some (.list es)) (h3 : ds.length + es.length ≤ 100000) : sExt i f env = some (.nx (env.set i (.own (ds ++ es)))) := by
  unfold sExt
  rw [h1]
  show (f env).bind _ = _
  rw [h2]
  show (if ds.length + es.length ≤ 100000 then _ else none) = _
  rw [if_pos h3]
theorem free_ev {i : Nat} {F : PL.Env → Option Out} {env : PL.Env} {ds : List PyData} (h : env[i]? = some (.own ds)) : sFree i F env = F (env.set i (.sh (.list ds))) := by
  unfold sFree frE
  rw [h]
  rfl
theorem own_nx {f : PL.Env → Option (List PyData)} {i : Nat} {env : PL.Env} {ds : List PyData} (h : f env = some ds) : sOwn f i env = some (.nx (env.set i (.own ds))) := by
  unfold sOwn
  rw [h]
  rfl
theorem and_ev {a b : PL.Env → Option PyData} {env : PL.Env} {d : PyData} (ha : a env = some (.bool true)) (hb : b env = some d) : eAndB a b env = some d := by
  unfold eAndB tE
  rw [ha]
  exact hb
theorem fit_p {q : Str × Option Str} (h : okP q = true) : Fit 1 (encP q) := by
  obtain ⟨n, o⟩ := q
  unfold okP at h
  rw [Bool.and_eq_true] at h
  refine fit_tup (n := 0) fun e me => ?_
  simp only [List.mem_cons, List.not_mem_nil, or_false] at me
  rcases me with rfl | rfl
  · exact fit_str 0 h.1
  · cases o with
    | none => exact fit_none 0
    | some x => exact fit_str 0 h.2
theorem eqv_p (q : Str × Option Str) : PyData.eqv (encP q) (encP q) = true := by
  obtain ⟨n, o⟩ := q
  show (PyData.eqv (.str n) (.str n) && (PyData.eqv (optD o) (optD o) && true)) = true
  cases o with
  | none =>
    rw [eqv_str]
    simp
    rfl
  | some x =>
    show (PyData.eqv (.str n) (.str n) && (PyData.eqv (.str x) (.str x) && true)) = true
    rw [eqv_str, eqv_str]
    simp
theorem eqv_ps : ∀ l : List (Str × Option Str), PyData.eqvAll (l.map encP) (l.map encP) = true
  | [] => rfl
  | q :: l => by
    show (PyData.eqv (encP q) (encP q) && PyData.eqvAll (l.map encP) (l.map encP)) = true
    rw [eqv_p, eqv_ps l]
    rfl
theorem fit_ps {l : List (Str × Option Str)} (h : l.all okP = true) : Fit 2 (encPs l) := fit_list fun d m => by
  obtain ⟨q, mq, rfl⟩ := List.mem_map.mp m
  exact fit_p (List.all_eq_true.mp h q mq)
end PR
/-! dict(pairs), the pairs' keys texts, each once. -/
namespace PL
open PySem L2 PySem.Spec PyProof.Rows
def pairD : PyData → Option (Str × PyData)
  | .tuple [.str k, d] => some (k, d)
  | _ => none
def pairsD : List PyData → Option (List (Str × PyData))
  | [] => some []
  | d :: ds => (pairD d).bind fun q => (pairsD ds).map (q :: ·)
def gDict : List PyData → Option PyData
  | [.list ds] => (pairsD ds).bind fun ps => if (ps.map (·.1)).Nodup then some (.dict (kvP (ps.map (·.1)) (ps.map (·.2)))) else none
  | _ => none
section
variable {K : PySem.W.Frag} {H : Hp}
theorem pair_rp {d : PyData} {q : Str × PyData} {v : V} (h : Rp K H v d) (e : pairD d = some q) : ∃ a u, v = .ref a ∧ SqT K H a [.str q.1, u] ∧ Rp K H u q.2 := by
  unfold pairD at e
  split at e
  · cases e
    cases h with
    | tup h r =>
      cases r with
      | cons r1 r =>
        cases r1
        cases r with
        | cons r2 r =>
          cases r
          exact ⟨_, _, rfl, h, r2⟩
  · cases e
theorem pairs_rp : ∀ {ds : List PyData} {ps : List (Str × PyData)} {vs : List V}, RpAll K H vs ds → pairsD ds = some ps → ∃ (as : List Addr) (us : List V), vs = as.map V.ref ∧ us.length = ps.length ∧ Paired (fun p (kv : Key × V) => SqT K H p [kV kv.1, kv.2]) as (kvV (ps.map (·.1)) us) ∧ RpAll K H us (ps.map (·.2))
  | [], ps, _, .nil, e => by
    cases e
    exact ⟨[], [], rfl, rfl, .nil, .nil⟩
  | d :: ds, ps, _, .cons r t, e => by
    unfold pairsD at e
    obtain ⟨q, hq, e⟩ := Option.bind_eq_some_iff.mp e
    obtain ⟨ps', hp, rfl⟩ := Option.map_eq_some_iff.mp e
    obtain ⟨a, u, rfl, h1, r1⟩ := pair_rp r hq
    obtain ⟨as, us, rfl, hl, h2, r2⟩ := pairs_rp t hp
    exact ⟨a :: as, u :: us, rfl, by rw [List.length_cons, List.length_cons, hl], .cons h1 h2, .cons r1 r2⟩
abbrev rDictC (K : PySem.W.Frag) : List V → Hp → VK → Prop := fun xs H Q => ∃ a ps kvs, xs = [V.ref a] ∧ SqL K H a (List.map V.ref ps) ∧ Paired (fun p kv => SqT K H p [kV kv.fst, kv.snd]) ps kvs ∧ ∀ (p : Addr), H p = none → Q (V.ref p) (upd H p (HO.dK (mergeK [] kvs)))
theorem den_dictP {tr : TA} {fr : PL.Env → Option (List PyData)} (h : DenAP K tr fr) : DenP K (tCB (rDictC K) tr) (eA gDict fr) := by
  intro base O0 O σ H env d S e Q q
  unfold eA at e
  cases k1 : fr env with
  | none => simp [k1] at e
  | some xs =>
    simp only [k1, Option.bind_some] at e
    unfold gDict at e
    split at e
    · rename_i ds
      obtain ⟨ps, hp, e⟩ := Option.bind_eq_some_iff.mp e
      split at e
      case isFalse => cases e
      rename_i nd
      cases e
      refine h base O0 O σ H env _ S k1 _ fun vs H1 x1 r1 => ?_
      cases r1 with
      | cons o t =>
        cases t
        cases o with
        | lst hl r =>
          obtain ⟨as, us, rfl, hlen, hpr, ru⟩ := pairs_rp r hp
          have hlk : (ps.map (·.1)).length = us.length := by rw [List.length_map, hlen]
          refine ⟨_, as, kvV (ps.map (·.1)) us, rfl, SqL.of (vis_le _ _ hl), ?_, fun p hpn => ?_⟩
          · have go : ∀ {as : List Addr} {kvs : List (Key × V)}, Paired (fun p (kv : Key × V) => SqT K (vis O H1) p [kV kv.1, kv.2]) as kvs → Paired (fun p (kv : Key × V) => SqT K H1 p [kV kv.1, kv.2]) as kvs := fun {as kvs} pr => by
              induction pr with
              | nil => exact .nil
              | cons a _ ih => exact .cons (ex_t vis_le a) ih
            exact go hpr
          · have hm : mergeK [] (kvV (ps.map (·.1)) us) = kvV (ps.map (·.1)) us := by
              unfold mergeK
              rw [merge_new _ [] (by rw [List.nil_append, kvV_keys hlk]; exact keys_nd nd)]
              rfl
            rw [hm]
            refine q _ _ (x1.trans (Ex.new hpn)) (.dic (vis_at ?_ upd_same) hlk (ru.mono (vis_mono (Ex.new hpn))))
            cases z : O p with
            | false => rfl
            | true => exact absurd hpn ((S.mono x1).all p z)
    · cases e
end
section
variable {K : PySem.W.Frag} {X : Cx} {e : Expr} {es : List Expr} {tr : TA} {fr : PL.Env → Option (List PyData)} {p pos : Pos}
theorem fDict (hm : X.mg "dict" = none) (hc : X.calm = true := by rfl) (hg : Gl X "dict" := by rfl) (ha : EB K X (e :: es) tr fr) (he : starEach (e :: es) X.env = (false, eval e X.env) :: starEach es X.env := by rfl) (hpl : (backTo pos (starEach es X.env)).any (·.1) = false := by rfl) (hK : X.K = K := by rfl) :
    EP K X (.Call (.Name "dict" p) (e :: es) [] pos) (tCB (rDictC K) tr) (eA gDict fr) := by
  subst hK
  exact ⟨pe_callTy (call_dictP hc) hg hm (by decide +kernel) ha.pe (by decide) (by decide) he hpl, den_dictP ha.de⟩
end
/-! ### the truth of any flat value -/
def truD : PyData → Option Bool
  | .none => some false
  | .bool b => some b
  | .int i => some (i != 0)
  | .str z => if z.length ≤ 100000 then some ((z.length : Int) != 0) else none
  | _ => none
def tV (f : PL.Env → Option PyData) : PL.Env → Option Bool := fun env => (f env).bind truD
section
variable {K : PySem.W.Frag} {X : Cx} {e : Expr} {te : TE} {f : PL.Env → Option PyData}
theorem den_tru (h : Den K te f) : DenT K (fun σ H Q => te σ H fun x H' => ∃ k, TruV K x H' k ∧ Q k H') (tV f) := by
  intro base O0 O σ H env b S e Q q
  unfold tV at e
  cases h1 : f env with
  | none => simp [h1] at e
  | some x =>
    simp only [h1, Option.bind_some] at e
    refine h base O0 O σ H env x S h1 _ fun v H1 e1 o1 => ?_
    unfold truD at e
    split at e
    · cases e
      rcases o1 with r | ⟨_, _, _, _, _, _, z⟩ | ⟨_, z, _⟩
      · cases r
        exact ⟨false, rfl, q _ e1⟩
      · cases z
      · cases z
    · cases e
      rw [o1.bl]
      exact ⟨_, rfl, q _ e1⟩
    · cases e
      rw [o1.int]
      exact ⟨_, rfl, q _ e1⟩
    · split at e
      case isFalse => cases e
      rename_i hl
      cases e
      rw [o1.str]
      exact ⟨_, ⟨Nat.le_trans hl (by decide), rfl⟩, q _ e1⟩
    · cases e
theorem tTru_ (h : EO K X e te f) (he : ∀ whole, isTrue e X.env whole = (do let v ← whole; standAt e.pos; holding [v] (truthy v)) := by intro _; rfl) (hK : X.K = K := by rfl) : ET K X e (fun σ H Q => te σ H fun x H' => ∃ k, TruV K x H' k ∧ Q k H') (tV f) := by
  subst hK
  exact ⟨pt_truth h.pe he, den_tru h.de⟩
end
end PL
/-! A dict of a frame's own, keys texts or numbers; tables of the top; zip of tuples. -/
namespace PL
open PySem L2 PySem.Spec PyProof.Rows
/-! ### zip of tuples -/
def asTu : PyData → Option (List PyData)
  | .tuple ds => some ds
  | _ => none
def iZt (f : Env → Option (List PyData)) : Env → Option (List PyData) := fun env => (f env).bind fun
  | [d, e] => (asTu d).bind fun xs => (asTu e).map fun ys => zipD xs ys
  | _ => none
section
variable {K : PySem.W.Frag} {tr : TA} {fr : PL.Env → Option (List PyData)}
theorem asTu_rp {H : Hp} {v : V} {d : PyData} {es : List PyData} (r : Rp K H v d) (h : asTu d = some es) : ∃ a vs, v = .ref a ∧ SqT K H a vs ∧ RpAll K H vs es := by
  unfold asTu at h
  split at h
  · cases h
    cases r with
    | tup h r => exact ⟨_, _, rfl, h, r⟩
  · cases h
theorem den_izt (h : DenAP K tr fr) : DenI K (RZ.iZipA K tr) (iZt fr) := by
  intro base O0 O σ H env ds S e R q
  unfold iZt at e
  cases k1 : fr env with
  | none => simp [k1] at e
  | some xs =>
    simp only [k1, Option.bind_some] at e
    split at e
    · rename_i d1 d2
      cases k2 : asTu d1 with
      | none => simp [k2] at e
      | some es =>
        cases k3 : asTu d2 with
        | none => simp [k2, k3] at e
        | some fs =>
          simp only [k2, k3, Option.bind_some, Option.map_some] at e
          cases e
          refine h base O0 O σ H env _ S k1 _ fun vs H1 x1 r1 => ?_
          cases r1 with
          | cons o t =>
            cases t with
            | cons o2 t =>
              cases t
              obtain ⟨a, vs, rfl, hs, r'⟩ := asTu_rp o k2
              obtain ⟨b, ws, rfl, hs2, r2'⟩ := asTu_rp o2 k3
              refine ⟨a, b, vs, ws, rfl, .inr ⟨ex_t vis_le hs, ex_t vis_le hs2, q _ H1 x1 fun O2 H2 al e1 e2 => ⟨fun i d hd => ?_, fun i hi => ?_⟩⟩⟩
              · obtain ⟨x, y, hx, hy, rfl⟩ := zipD_at es fs i d hd
                obtain ⟨v, hv, rv⟩ := r'.get hx
                obtain ⟨w, hw, rw_⟩ := r2'.get hy
                refine ⟨⟨vs, ws, v, w, ex_t e1 hs, ex_t e1 hs2, hv, hw⟩, fun x H3 yy => ?_⟩
                obtain ⟨T, x2, y2, rfl, hT, rfl, y3, y4⟩ := yy
                have z := y3 vs (ex_t e1 hs)
                rw [hv] at z
                cases z
                have z2 := y4 ws (ex_t e1 hs2)
                rw [hw] at z2
                cases z2
                exact new_tup al hT (.cons (rv.mono e2) (.cons (rw_.mono e2) .nil))
              · rw [zipD_len] at hi
                exact ⟨vs, ws, ex_t e1 hs, ex_t e1 hs2, by rw [r'.length, r2'.length]; omega⟩
    · cases e
end
section
variable {K : PySem.W.Frag} {X : Cx} {a b : Expr} {tr : TA} {fr : PL.Env → Option (List PyData)} {p pos : Pos} {elts : List Expr} {kk : Nat} {tpos : Pos}
theorem iZt_ (hm : X.mg "zip" = none) (ha : EB K X [a, b] tr fr) (hg : Gl X "zip" := by rfl) (hs : starEach [a, b] X.env = (false, eval a X.env) :: starEach [b] X.env := by rfl) (h2 : (backTo pos (starEach [b] X.env)).any (·.1) = false := by rfl) (hK : X.K = K := by rfl) :
    EI K X (.Tuple elts kk tpos) (.Call (.Name "zip" p) [a, b] [] pos) (RZ.iZipA K tr) (iZt fr) := by
  subst hK
  exact ⟨RZ.pi_zipA hg hm ha.pe hs h2, den_izt ha.de⟩
end
/-! ### a table of the top: tuples of texts by texts -/
def lookT (tb : List (Str × List Str)) (z : Str) : Option (List Str) := (tb.find? fun q => decide (q.1 = z)).map (·.2)
structure TabOk (K : PySem.W.Frag) (w : World) (p : Addr) (tb : List (Str × List Str)) : Prop where
  at_ : ∀ q ∈ tb, ∃ t, KDct K w p q.1 (.ref t) ∧ ∀ H : Hp, SqT K H t (q.2.map V.str)
def eTab (tb : List (Str × List Str)) (f : PL.Env → Option PyData) : PL.Env → Option PyData := fun env => (f env).bind fun
  | .str z => (lookT tb z).map fun ks => .tuple (ks.map PyData.str)
  | _ => none
section
variable {K : PySem.W.Frag} {w : World} {p : Addr} {tb : List (Str × List Str)} {te : TE} {f : PL.Env → Option PyData}
theorem den_tab (T : TabOk K w p tb) (h : Den K te f) : DenP K (tOp (rIxD K w) (tC (.ref p)) te) (eTab tb f) := by
  intro base O0 O σ H env d S e Q q
  unfold eTab at e
  cases k1 : f env with
  | none => simp [k1] at e
  | some x =>
    simp only [k1, Option.bind_some] at e
    split at e
    · rename_i z
      obtain ⟨ks, hk, rfl⟩ := Option.map_eq_some_iff.mp e
      unfold lookT at hk
      obtain ⟨r, hr, rfl⟩ := Option.map_eq_some_iff.mp hk
      have hm := List.mem_of_find?_eq_some hr
      have hz : r.1 = z := by
        have h := List.find?_some hr
        exact of_decide_eq_true h
      obtain ⟨t, hd, ht⟩ := T.at_ r hm
      refine h base O0 O σ H env _ S k1 _ fun v H1 x1 o1 => ?_
      rw [o1.str]
      refine ⟨p, z, .ref t, rfl, rfl, hz ▸ hd, q _ H1 x1 (.tup (ht _) (RpAll.strs _))⟩
    · cases e
end
section
variable {K : PySem.W.Frag} {X : Cx} {e : Expr} {te : TE} {f : PL.Env → Option PyData} {x : Str} {px pos : Pos} {tb : List (Str × List Str)} {p : Addr}
theorem eTb (T : TabOk K X.w p tb) (hm : X.mg x = some (.ref p)) (h : EO K X e te f) (hg : Gl X x := by rfl) (hs : PlainIx e := by exact fun _ _ => rfl) (hdb : (x == ("__debug__" : Str)) = false := by decide) (hK : X.K = K := by rfl) : EP K X (.Subscript (.Name x px) e pos) (tOp (rIxD K X.w) (tC (.ref p)) te) (eTab tb f) := by
  subst hK
  exact ⟨pe_ix ix_kdict (pe_glob hg hm rfl hdb) h.pe hs, den_tab T h.de⟩
end
/-- a table of the top by its facts -/
theorem tab_at {K : PySem.W.Frag} {w : World} {p t : Addr} {es : Array DictEntry} {n : Nat} {ks vs : List Str} {z : Str} {od : Option Addr} {its : Array Value} {m : Nat} {sl : Array (Option Value)} (hl : K.lookup p = some ⟨.type "dict", none, .dict es n, #[]⟩) (hd : es.toList.map He.keyOf = He.keysIn w.params ks) (hn : PySem.W.nsIn K p z = some (some (.ref t))) (ht : K.lookup t = some ⟨.type "tuple", od, .seq its m, sl⟩) (hs : its.size ≤ 1000) (hr : He.relAll (vs.map V.str) its.toList = true) : ∃ t, KDct K w p z (.ref t) ∧ ∀ H : Hp, SqT K H t (vs.map V.str) :=
  ⟨t, ⟨es, n, _, hl, He.keysLit_of hd, hn, rfl⟩, fun H => .inr ⟨_, its, m, ht, rfl, rfl, Nat.le_trans hs (by rw [sizeLine_eq]; decide), He.relAll_ok hr⟩⟩
/-! ### a dict that a frame fills -/
def keyD : PyData → Option Key
  | .str x => some (Sum.inr x)
  | .int i => some (Sum.inl i)
  | _ => none
def keyP : Key → PyData
  | .inl i => .int i
  | .inr x => .str x
def sDNew (i : Nat) : PL.Env → Option Out := fun env => if i < env.length then some (.nx (env.set i (.ob (.dk [])))) else none
/-- d[k] = v, v flat -/
def sDSet (i : Nat) (fk fv : PL.Env → Option PyData) : PL.Env → Option Out := fun env => (fv env).bind fun dv => (flatD dv).bind fun v => match env[i]? with
  | some (.ob (.dk kvs)) => (fk env).bind fun dk => (keyD dk).bind fun k => if kvs.length < 50000 then some (.nx (env.set i (.ob (.dk (putK kvs k v))))) else none
  | _ => none
def nKeys (i : Nat) : PL.Env → Option (List PyData) := fun env => match env[i]? with
  | some (.ob (.dk kvs)) => some (kvs.map fun q => keyP q.1)
  | _ => none
section
variable {K : PySem.W.Frag} {base : Hp} {O0 O : Hid} {σ : L2.St} {H : Hp} {env : PL.Env} {i : Nat}
theorem dk_obr {v : V} {fp : List Addr} {B : Hp} {kvs : List (Key × V)} (r : ObR K v fp H B (.dk kvs)) : ∃ p, v = .ref p ∧ fp = [p] ∧ H p = some (.dK kvs) := by
  obtain ⟨_, _, p, rfl, rfl, h⟩ := r
  exact ⟨p, rfl, rfl, (rst_some h).2⟩
theorem obr_dk {p : Addr} {B : Hp} {kvs : List (Key × V)} (h : H p = some (.dK kvs)) : ObR K (.ref p) [p] H B (.dk kvs) := ⟨by simp, (fun a m => by rw [List.mem_singleton.mp m, h]; exact fun z => by cases z), p, rfl, rfl, rst_at (List.mem_singleton.mpr rfl) h⟩
theorem Sat.dk {kvs : List (Key × V)} (S : Sat K base O0 O σ H env) (hi : env[i]? = some (.ob (.dk kvs))) : ∃ p, σ[i]? = some (some (.ref p)) ∧ H p = some (.dK kvs) ∧
    ∀ kvs', ∃ O', PL.Ex (vis O H) (vis O' (upd H p (.dK kvs'))) ∧ Sat K base O0 O' σ (upd H p (.dK kvs')) (env.set i (.ob (.dk kvs'))) := by
  obtain ⟨v, fp, hx, oa, r, mv⟩ := S.mutOb hi
  obtain ⟨p, rfl, rfl, hp⟩ := dk_obr r
  refine ⟨p, hx, hp, fun kvs' => ?_⟩
  obtain ⟨ev, S2⟩ := mv (upd H p (.dK kvs')) [p] (.dk kvs') (Moved.wr (by simp) (List.mem_singleton.mpr rfl)) (obr_dk upd_same)
  exact ⟨_, ev, S2⟩
theorem dens_dnew : DenS K (tAsg tDNewK (gName i)) (sDNew i) := by
  intro base O0 O σ H env o D S e P
  unfold sDNew at e
  split at e
  case isFalse => cases e
  rename_i hi
  cases e
  intro p hp
  have ex : PL.Ex H (upd H p (.dK [])) := Ex.new hp
  have S2 := S.setOb (i := i) ex (fp := [p]) (fun b m => by rw [List.mem_singleton.mp m]; exact hp) (obr_dk upd_same) hi
  exact P _ _ _ (vis_moved (fp := []) (fun b u hb _ => ex b u hb) (fun b m => .inr (by rw [List.mem_singleton.mp m]; exact hp)) (fun a m => nomatch m)) S2
variable {tk tv : TE} {fk fv : PL.Env → Option PyData}
theorem dens_dset (hk : DenP K tk fk) (hv : DenP K tv fv) : DenS K (sDPut (tVar i) tk tv) (sDSet i fk fv) := by
  intro base O0 O σ H env o D S e P
  unfold sDSet at e
  cases k1 : fv env with
  | none => simp [k1] at e
  | some dv =>
    simp only [k1, Option.bind_some] at e
    cases k2 : flatD dv with
    | none => simp [k2] at e
    | some v =>
      simp only [k2, Option.bind_some] at e
      split at e
      · rename_i kvs hi
        cases k3 : fk env with
        | none => simp [k3] at e
        | some dk =>
          simp only [k3, Option.bind_some] at e
          cases k4 : keyD dk with
          | none => simp [k4] at e
          | some k =>
            simp only [k4, Option.bind_some] at e
            split at e
            case isFalse => cases e
            rename_i hl
            cases e
            refine hv base O0 O σ H env _ S k1 _ fun u H1 x1 r1 => ?_
            have S1 := S.mono x1
            have hu : u = v := by
              unfold flatD at k2
              split at k2 <;> cases k2 <;> cases r1 <;> rfl
            subst hu
            obtain ⟨p, hx, hp, _⟩ := S1.dk hi
            refine ⟨_, hx, ?_⟩
            refine hk base O0 O σ H1 env _ S1 k3 _ fun y H2 x2 r2 => ?_
            have S2 := S1.mono x2
            obtain ⟨p', hx2, hp2, mv⟩ := S2.dk hi
            rw [hx] at hx2
            cases hx2
            have hy : y = kV k := by
              unfold keyD at k4
              split at k4 <;> cases k4 <;> cases r2 <;> rfl
            subst hy
            refine ⟨p, _, rfl, DPut.k hp2 (Nat.lt_of_lt_of_le hl (by rw [sizeLine_eq]; decide)), ?_⟩
            obtain ⟨O', ev, S3⟩ := mv (putK kvs k u)
            exact P O' σ _ ((vis_mono (x1.trans x2)).trans ev) S3
      · cases e
theorem den_keys : DenN K (tCB (fun xs H Q => ∃ (a : Addr) (kvs : List (Key × V)), xs = [.ref a] ∧ Rd H a (.dK kvs) ∧ ∀ p, H p = none → Q (.ref p) (upd H p (.lst (kvs.map fun kv => kV kv.1)))) (tCons (tVar i) tNil)) (nKeys i) := by
  intro base O0 O σ H env ds S e Q q
  unfold nKeys at e
  split at e
  · rename_i kvs hi
    cases e
    obtain ⟨p, hx, hp, _⟩ := S.dk hi
    refine ⟨_, hx, p, kvs, rfl, .inl hp, fun l hl => ?_⟩
    refine q l _ _ hl (Ex.new hl) upd_same ?_
    have : ∀ {B : Hp} (l : List (Key × V)), RpAll K B (l.map fun kv => kV kv.1) (l.map fun q => keyP q.1) := fun {B} l => by
      induction l with
      | nil => exact .nil
      | cons a l ih =>
        obtain ⟨k, v⟩ := a
        cases k with
        | inl i => exact .cons (.int i) ih
        | inr x => exact .cons (.str x) ih
    exact this _
  · cases e
end
section
variable {K : PySem.W.Frag} {X : Cx} {x : Str} {px pos p2 q : Pos} {e ek : Expr} {tk tv : TE} {fk fv : PL.Env → Option PyData}
theorem zDNew (i : Nat) (nd : X.N.Nodup) (hN : X.N[i]? = some x := by rfl) (hl : Loc X.env.scope x := by first | exact Or.inl rfl | exact Or.inr rfl) (hf : X.fn x = true ∨ X.env.scope.names.lookup x = some .local := by first | exact Or.inr rfl | exact Or.inl rfl) (hs : swapsWithSole [.Name x px] (.Dict [] [] p2) pos.line X.env = pure false := by rfl) (h2 : swappedStores [.Name x px] (.Dict [] [] p2) X.env = pure none := by rfl) (h4 : (assignEach [.Name x px] X.env).map (·.2) = [assign (.Name x px) X.env] := by rfl) :
    ES K X (.Assign [.Name x px] (.Dict [] [] p2) pos) (tAsg tDNewK (gName i)) (sDNew i) := ⟨ps_asg pe_dnewK (pg_name nd hN hl hf) hs h2 h4, dens_dnew⟩
theorem zDSet (hu : X.A.units + 1 < cLine) (i : Nat) (hx : PE X (.Name x px) (tVar i)) (hk : EP K X ek tk fk) (h : EP K X e tv fv) (hs : swapsWith e (some (.Subscript (.Name x px) ek p2)) pos.line X.env = pure false := by rfl) : ES K X (.Assign [.Subscript (.Name x px) ek p2] e pos) (sDPut (tVar i) tk tv) (sDSet i fk fv) :=
  ⟨ps_dput hu hx hk.pe h.pe hs, dens_dset hk.de h.de⟩
theorem fKeys (i : Nat) (hm : X.mg "list" = none) (hx : PE X (.Name x px) (tVar i)) (hc : X.calm = true := by rfl) (hg : Gl X "list" := by rfl) (h0 : starEach [.Name x px] X.env = (false, eval (.Name x px) X.env) :: starEach [] X.env := by rfl) (hpl : (backTo pos (starEach [] X.env)).any (·.1) = false := by rfl) :
    EN K X (.Call (.Name "list" q) [.Name x px] [] pos) (tCB (fun xs H Q => ∃ (a : Addr) (kvs : List (Key × V)), xs = [.ref a] ∧ Rd H a (.dK kvs) ∧ ∀ p, H p = none → Q (.ref p) (upd H p (.lst (kvs.map fun kv => kV kv.1)))) (tCons (tVar i) tNil)) (nKeys i) :=
  ⟨pe_callTy (call_listD hc) hg hm (by decide +kernel) (pa_cons hx pa_nil h0) (by decide) (by decide) h0 hpl, den_keys⟩
end
end PL
/-! The law's own state: a dict of lists, hidden. -/
namespace PL
open PySem L2 PySem.Spec PyProof.Rows
def encQ (q : Str × Int) : PyData := .tuple [.str q.1, .int q.2]
def encN (q : Int × Int) : PyData := .list [.int q.1, .int q.2]
def lsKs : List Str := ["open", "held", "worth", "told", "given", "many"]
def heldD (l : List (Str × Nat)) : PyData := .dict (kvP (l.map (·.1)) (l.map fun q => .int (q.2 : Int)))
def lsPs (S : LS) : List PyData := [.list (S.opn.map encQ), heldD S.held, .list (S.worth.map encN), .list (S.told.map PyData.int), .list (S.given.map PyData.int), .int S.many]
def lsD (S : LS) : PyData := .dict (kvP lsKs (lsPs S))
section
variable {K : PySem.W.Frag} {H H' B B' : Hp} {p a1 a2 a3 a4 a5 : Addr} {was : List Addr} {os : List V} {S : LS} {O : Hid}
theorem PairsAt.sub : ∀ {as : List Addr} {vs : List (Int × Int)}, PairsAt H as vs → (∀ a ∈ as, ∀ o, H a = some o → H' a = some o) → PairsAt H' as vs
  | _, _, .nil, _ => .nil
  | _, _, .cons h t, m => .cons (m _ (List.mem_cons_self ..) _ h) (t.sub fun a x => m a (List.mem_cons_of_mem _ x))
theorem PairsAt.live : ∀ {as : List Addr} {vs : List (Int × Int)} {a : Addr}, PairsAt H as vs → a ∈ as → ∃ o, H a = some o
  | _, _, _, .nil, m => nomatch m
  | _, _, _, .cons h t, m => (List.mem_cons.mp m).elim (fun e => ⟨_, e ▸ h⟩) fun m => t.live m
theorem LsAt.sub (h : LsAt K H B p a1 a2 a3 a4 a5 was os S) (m : ∀ a ∈ lsFp p a1 a2 a3 a4 a5 was, ∀ o, H a = some o → H' a = some o) : LsAt K H' B p a1 a2 a3 a4 a5 was os S := by
  unfold lsFp at m
  exact ⟨m p (by simp) _ h.hp, m a1 (by simp) _ h.h1, h.hos, m a2 (by simp) _ h.h2, m a3 (by simp) _ h.h3, h.hw.sub fun a x => m a (by simp [x]), m a4 (by simp) _ h.h4, m a5 (by simp) _ h.h5, h.ha⟩
theorem LsAt.live (h : LsAt K H B p a1 a2 a3 a4 a5 was os S) : ∀ a ∈ lsFp p a1 a2 a3 a4 a5 was, H a ≠ none := fun a m => by
  have : ∃ o, H a = some o := by
    unfold lsFp at m
    simp only [List.mem_cons] at m
    rcases m with rfl | rfl | rfl | rfl | rfl | rfl | m
    · exact ⟨_, h.hp⟩
    · exact ⟨_, h.h1⟩
    · exact ⟨_, h.h2⟩
    · exact ⟨_, h.h3⟩
    · exact ⟨_, h.h4⟩
    · exact ⟨_, h.h5⟩
    · exact h.hw.live m
  obtain ⟨o, ho⟩ := this
  rw [ho]
  exact fun z => nomatch z
theorem LsAt.seen (e : Ex B B') (h : LsAt K H B p a1 a2 a3 a4 a5 was os S) : LsAt K H B' p a1 a2 a3 a4 a5 was os S := ⟨h.hp, h.h1, h.hos.mono e, h.h2, h.h3, h.hw, h.h4, h.h5, h.ha⟩
theorem obr_ls (h : LsAt K H B p a1 a2 a3 a4 a5 was os S) (nd : (lsFp p a1 a2 a3 a4 a5 was).Nodup) : ObR K (.ref p) (lsFp p a1 a2 a3 a4 a5 was) H B (.ls S) :=
  ⟨nd, h.live, p, a1, a2, a3, a4, a5, was, os, rfl, rfl, h.sub fun a m o ho => rst_at m ho⟩
theorem ls_obr {v : V} {fp : List Addr} (r : ObR K v fp H B (.ls S)) : ∃ p a1 a2 a3 a4 a5 was os, v = .ref p ∧ fp = lsFp p a1 a2 a3 a4 a5 was ∧ LsAt K H B p a1 a2 a3 a4 a5 was os S ∧ (lsFp p a1 a2 a3 a4 a5 was).Nodup := by
  obtain ⟨nd, _, p, a1, a2, a3, a4, a5, was, os, rfl, rfl, h⟩ := r
  exact ⟨p, a1, a2, a3, a4, a5, was, os, rfl, rfl, h.sub fun a m o ho => (rst_some ho).2, nd⟩
/-! ### the state as data -/
theorem unl_dk {a : Addr} {kvs : List (Key × V)} (h : H a = some (.dK kvs)) : unl O H a = false := by
  unfold unl
  rw [h]
  simp
theorem unl_l {a : Addr} {xs : List V} (h : H a = some (.lst xs)) : unl O H a = false := by
  unfold unl
  rw [h]
  simp
theorem kvV_map {α : Type} (f : α → Str) (g : α → V) : ∀ l : List α, kvV (l.map f) (l.map g) = l.map fun q => (Sum.inr (f q), g q)
  | [] => rfl
  | q :: l => by
    show (Sum.inr (f q), g q) :: kvV (l.map f) (l.map g) = _
    rw [kvV_map f g l]
    rfl
theorem rp_nums {α : Type} (g : α → Int) : ∀ l : List α, RpAll K H (l.map fun q => V.int (g q)) (l.map fun q => .int (g q))
  | [] => .nil
  | q :: l => .cons (.int _) (rp_nums g l)
theorem rp_pairs (O : Hid) : ∀ {as : List Addr} {vs : List (Int × Int)}, PairsAt H as vs → RpAll K (vis (unl O H) H) (as.map V.ref) (vs.map encN)
  | _, _, .nil => .nil
  | _, _, .cons h t => .cons (.lst (vis_at (unl_l h) h) (.cons (.int _) (.cons (.int _) .nil))) (rp_pairs O t)
theorem ls_rp (h : LsAt K H (vis O H) p a1 a2 a3 a4 a5 was os S) : Rp K (vis (unl O H) H) (.ref p) (lsD S) := by
  refine .dic (ks := lsKs) (xs := [.ref a1, .ref a2, .ref a3, .ref a4, .ref a5, .int S.many]) (vis_at (unl_dk h.hp) h.hp) rfl ?_
  refine .cons (.lst (vis_at (unl_l h.h1) h.h1) (h.hos.mono unl_le)) (.cons ?_ (.cons (.lst (vis_at (unl_l h.h3) h.h3) (rp_pairs O h.hw)) (.cons (.lst (vis_at (unl_l h.h4) h.h4) (rp_nums id _)) (.cons (.lst (vis_at (unl_l h.h5) h.h5) (rp_nums id _)) (.cons (.int _) .nil)))))
  refine .dic (ks := S.held.map (·.1)) (xs := S.held.map fun q => V.int (q.2 : Int)) ?_ (by rw [List.length_map, List.length_map]) (rp_nums (fun q : Str × Nat => (q.2 : Int)) _)
  rw [kvV_map]
  exact vis_at (unl_dk h.h2) h.h2
end
/-! ### looked at in a frame -/
def eLs (i : Nat) : PL.Env → Option PyData := fun env => match env[i]? with
  | some (.ob (.ls S)) => some (lsD S)
  | _ => none
def eOpn (i : Nat) : PL.Env → Option PyData := fun env => match env[i]? with
  | some (.ob (.ls S)) => some (.list (S.opn.map encQ))
  | _ => none
def eToldL (i : Nat) : PL.Env → Option PyData := fun env => match env[i]? with
  | some (.ob (.ls S)) => some (.list (S.told.map PyData.int))
  | _ => none
def eGivenL (i : Nat) : PL.Env → Option PyData := fun env => match env[i]? with
  | some (.ob (.ls S)) => some (.list (S.given.map PyData.int))
  | _ => none
def eMany (i : Nat) : PL.Env → Option PyData := fun env => match env[i]? with
  | some (.ob (.ls S)) => some (.int S.many)
  | _ => none
section
variable {K : PySem.W.Frag} {i : Nat}
theorem den_ls : Den K (tVar i) (eLs i) := by
  intro base O0 O σ H env d S e Q q
  unfold eLs at e
  split at e
  · rename_i S0 hi
    cases e
    obtain ⟨v, fp, hx, _, r0, _⟩ := S.mutOb hi
    obtain ⟨p, a1, a2, a3, a4, a5, was, os, rfl, rfl, h, nd⟩ := ls_obr r0
    exact ⟨_, hx, q _ H (PL.Ex.refl H) (.inr (.inr ⟨_, rfl, ls_rp h⟩))⟩
  · cases e
theorem get_open {p a1 a2 a3 a4 a5 : Addr} {n : Int} {H : Hp} (h : H p = some (.dK [(kS "open", .ref a1), (kS "held", .ref a2), (kS "worth", .ref a3), (kS "told", .ref a4), (kS "given", .ref a5), (kS "many", .int n)])) :
    DGet H p (.str "open") (some (.ref a1)) ∧ DGet H p (.str "held") (some (.ref a2)) ∧ DGet H p (.str "worth") (some (.ref a3)) ∧ DGet H p (.str "told") (some (.ref a4)) ∧ DGet H p (.str "given") (some (.ref a5)) ∧ DGet H p (.str "many") (some (.int n)) := by
  have ne : ∀ x y : Str, decide (x = y) = false → kS x ≠ kS y := fun x y h e => of_decide_eq_false h (kS_inj.mp e)
  have g : ∀ k : Str, DGet H p (.str k) (valV [(kS "open", V.ref a1), (kS "held", .ref a2), (kS "worth", .ref a3), (kS "told", .ref a4), (kS "given", .ref a5), (kS "many", .int n)] (kS k)) := fun k => DGet.k (k := kS k) h
  refine ⟨?_, ?_, ?_, ?_, ?_, ?_⟩
  · have := g "open"
    rwa [valV_pos rfl] at this
  · have := g "held"
    rwa [valV_neg (ne _ _ (by decide +kernel)), valV_pos rfl] at this
  · have := g "worth"
    rwa [valV_neg (ne _ _ (by decide +kernel)), valV_neg (ne _ _ (by decide +kernel)), valV_pos rfl] at this
  · have := g "told"
    rwa [valV_neg (ne _ _ (by decide +kernel)), valV_neg (ne _ _ (by decide +kernel)), valV_neg (ne _ _ (by decide +kernel)), valV_pos rfl] at this
  · have := g "given"
    rwa [valV_neg (ne _ _ (by decide +kernel)), valV_neg (ne _ _ (by decide +kernel)), valV_neg (ne _ _ (by decide +kernel)), valV_neg (ne _ _ (by decide +kernel)), valV_pos rfl] at this
  · have := g "many"
    rwa [valV_neg (ne _ _ (by decide +kernel)), valV_neg (ne _ _ (by decide +kernel)), valV_neg (ne _ _ (by decide +kernel)), valV_neg (ne _ _ (by decide +kernel)), valV_neg (ne _ _ (by decide +kernel)), valV_pos rfl] at this
theorem den_opn : Den K (tDGet (tVar i) (tC (.str "open"))) (eOpn i) := by
  intro base O0 O σ H env d S e Q q
  unfold eOpn at e
  split at e
  · rename_i S0 hi
    cases e
    obtain ⟨v, fp, hx, _, r0, _⟩ := S.mutOb hi
    obtain ⟨p, a1, a2, a3, a4, a5, was, os, rfl, rfl, h, nd⟩ := ls_obr r0
    exact ⟨_, hx, p, _, rfl, (get_open h.hp).1, q _ H (PL.Ex.refl H) (.inr (.inl ⟨a1, os, _, rfl, h.h1, h.hos, rfl⟩))⟩
  · cases e
theorem den_toldl : Den K (tDGet (tVar i) (tC (.str "told"))) (eToldL i) := by
  intro base O0 O σ H env d S e Q q
  unfold eToldL at e
  split at e
  · rename_i S0 hi
    cases e
    obtain ⟨v, fp, hx, _, r0, _⟩ := S.mutOb hi
    obtain ⟨p, a1, a2, a3, a4, a5, was, os, rfl, rfl, h, nd⟩ := ls_obr r0
    exact ⟨_, hx, p, _, rfl, (get_open h.hp).2.2.2.1, q _ H (PL.Ex.refl H) (.inr (.inl ⟨a4, _, _, rfl, h.h4, rp_nums id _, rfl⟩))⟩
  · cases e
theorem den_givenl : Den K (tDGet (tVar i) (tC (.str "given"))) (eGivenL i) := by
  intro base O0 O σ H env d S e Q q
  unfold eGivenL at e
  split at e
  · rename_i S0 hi
    cases e
    obtain ⟨v, fp, hx, _, r0, _⟩ := S.mutOb hi
    obtain ⟨p, a1, a2, a3, a4, a5, was, os, rfl, rfl, h, nd⟩ := ls_obr r0
    exact ⟨_, hx, p, _, rfl, (get_open h.hp).2.2.2.2.1, q _ H (PL.Ex.refl H) (.inr (.inl ⟨a5, _, _, rfl, h.h5, rp_nums id _, rfl⟩))⟩
  · cases e
theorem den_many : DenP K (tDGet (tVar i) (tC (.str "many"))) (eMany i) := by
  intro base O0 O σ H env d S e Q q
  unfold eMany at e
  split at e
  · rename_i S0 hi
    cases e
    obtain ⟨v, fp, hx, _, r0, _⟩ := S.mutOb hi
    obtain ⟨p, a1, a2, a3, a4, a5, was, os, rfl, rfl, h, nd⟩ := ls_obr r0
    exact ⟨_, hx, p, _, rfl, (get_open h.hp).2.2.2.2.2, q _ H (PL.Ex.refl H) (.int _)⟩
  · cases e
end
end PL
/-! The law's own state, changed. -/
namespace PL
open PySem L2 PySem.Spec PyProof.Rows
/-- that its cells are apart -/
structure LsApart (p a1 a2 a3 a4 a5 : Addr) (was : List Addr) : Prop where
  h : (p ≠ a1 ∧ p ≠ a2 ∧ p ≠ a3 ∧ p ≠ a4 ∧ p ≠ a5) ∧ (a1 ≠ a2 ∧ a1 ≠ a3 ∧ a1 ≠ a4 ∧ a1 ≠ a5) ∧ (a2 ≠ a3 ∧ a2 ≠ a4 ∧ a2 ≠ a5) ∧ (a3 ≠ a4 ∧ a3 ≠ a5) ∧ a4 ≠ a5
  w : ∀ a ∈ was, a ≠ p ∧ a ≠ a1 ∧ a ≠ a2 ∧ a ≠ a3 ∧ a ≠ a4 ∧ a ≠ a5
  nd : was.Nodup
theorem ls_apart {p a1 a2 a3 a4 a5 : Addr} {was : List Addr} (nd : (lsFp p a1 a2 a3 a4 a5 was).Nodup) : LsApart p a1 a2 a3 a4 a5 was := by
  unfold lsFp at nd
  simp only [List.nodup_cons, List.mem_cons, not_or] at nd
  obtain ⟨⟨p1, p2, p3, p4, p5, p6⟩, ⟨q1, q2, q3, q4, q5⟩, ⟨r1, r2, r3, r4⟩, ⟨s1, s2, s3⟩, ⟨t1, t2⟩, u1, nd⟩ := nd
  refine ⟨⟨⟨p1, p2, p3, p4, p5⟩, ⟨q1, q2, q3, q4⟩, ⟨r1, r2, r3⟩, ⟨s1, s2⟩, t1⟩, fun a m => ?_, nd⟩
  refine ⟨?_, ?_, ?_, ?_, ?_, ?_⟩ <;> (intro e; subst e; contradiction)
section
variable {K : PySem.W.Frag} {H H' B B' : Hp} {p a1 a2 a3 a4 a5 : Addr} {was : List Addr} {os : List V} {S : LS} {O : Hid}
theorem PairsAt.wr {c : Addr} {o : HO} : ∀ {as : List Addr} {vs : List (Int × Int)}, PairsAt H as vs → (∀ a ∈ as, a ≠ c) → PairsAt (upd H c o) as vs
  | _, _, .nil, _ => .nil
  | _, _, .cons h t, n => .cons (by rw [upd_ne (n _ (List.mem_cons_self ..))]; exact h) (t.wr fun a m => n a (List.mem_cons_of_mem _ m))
theorem LsAt.wP (h : LsAt K H B p a1 a2 a3 a4 a5 was os S) (A : LsApart p a1 a2 a3 a4 a5 was) (n : Int) : LsAt K (upd H p (.dK [(kS "open", .ref a1), (kS "held", .ref a2), (kS "worth", .ref a3), (kS "told", .ref a4), (kS "given", .ref a5), (kS "many", .int n)])) B p a1 a2 a3 a4 a5 was os { S with many := n } := by
  obtain ⟨⟨p1, p2, p3, p4, p5⟩, _⟩ := A.h
  exact ⟨upd_same, by rw [upd_ne p1.symm]; exact h.h1, h.hos, by rw [upd_ne p2.symm]; exact h.h2, by rw [upd_ne p3.symm]; exact h.h3, h.hw.wr fun a m => (A.w a m).1, by rw [upd_ne p4.symm]; exact h.h4, by rw [upd_ne p5.symm]; exact h.h5, h.ha⟩
theorem LsAt.w1 (h : LsAt K H B p a1 a2 a3 a4 a5 was os S) (A : LsApart p a1 a2 a3 a4 a5 was) {os' : List V} {l : List (Str × Int)} (r : RpAll K B os' (l.map fun q => .tuple [.str q.1, .int q.2])) : LsAt K (upd H a1 (.lst os')) B p a1 a2 a3 a4 a5 was os' { S with opn := l } := by
  obtain ⟨⟨p1, _⟩, ⟨q1, q2, q3, q4⟩, _⟩ := A.h
  exact ⟨by rw [upd_ne p1]; exact h.hp, upd_same, r, by rw [upd_ne q1.symm]; exact h.h2, by rw [upd_ne q2.symm]; exact h.h3, h.hw.wr fun a m => (A.w a m).2.1, by rw [upd_ne q3.symm]; exact h.h4, by rw [upd_ne q4.symm]; exact h.h5, h.ha⟩
theorem LsAt.w2 (h : LsAt K H B p a1 a2 a3 a4 a5 was os S) (A : LsApart p a1 a2 a3 a4 a5 was) (l : List (Str × Nat)) : LsAt K (upd H a2 (.dK (l.map fun q => (kS q.1, V.int (q.2 : Int))))) B p a1 a2 a3 a4 a5 was os { S with held := l } := by
  obtain ⟨⟨_, p2, _⟩, ⟨q1, _⟩, ⟨r1, r2, r3⟩, _⟩ := A.h
  exact ⟨by rw [upd_ne p2]; exact h.hp, by rw [upd_ne q1]; exact h.h1, h.hos, upd_same, by rw [upd_ne r1.symm]; exact h.h3, h.hw.wr fun a m => (A.w a m).2.2.1, by rw [upd_ne r2.symm]; exact h.h4, by rw [upd_ne r3.symm]; exact h.h5, h.ha⟩
theorem LsAt.w4 (h : LsAt K H B p a1 a2 a3 a4 a5 was os S) (A : LsApart p a1 a2 a3 a4 a5 was) (l : List Int) : LsAt K (upd H a4 (.lst (l.map V.int))) B p a1 a2 a3 a4 a5 was os { S with told := l } := by
  obtain ⟨⟨_, _, _, p4, _⟩, ⟨_, _, q3, _⟩, ⟨_, r2, _⟩, ⟨s1, _⟩, t1⟩ := A.h
  exact ⟨by rw [upd_ne p4]; exact h.hp, by rw [upd_ne q3]; exact h.h1, h.hos, by rw [upd_ne r2]; exact h.h2, by rw [upd_ne s1]; exact h.h3, h.hw.wr fun a m => (A.w a m).2.2.2.2.1, upd_same, by rw [upd_ne t1.symm]; exact h.h5, h.ha⟩
theorem LsAt.w5 (h : LsAt K H B p a1 a2 a3 a4 a5 was os S) (A : LsApart p a1 a2 a3 a4 a5 was) (l : List Int) : LsAt K (upd H a5 (.lst (l.map V.int))) B p a1 a2 a3 a4 a5 was os { S with given := l } := by
  obtain ⟨⟨_, _, _, _, p5⟩, ⟨_, _, _, q4⟩, ⟨_, _, r3⟩, ⟨_, s2⟩, t1⟩ := A.h
  exact ⟨by rw [upd_ne p5]; exact h.hp, by rw [upd_ne q4]; exact h.h1, h.hos, by rw [upd_ne r3]; exact h.h2, by rw [upd_ne s2]; exact h.h3, h.hw.wr fun a m => (A.w a m).2.2.2.2.2, by rw [upd_ne t1]; exact h.h4, upd_same, h.ha⟩
/-- the n-th pair is written -/
theorem PairsAt.set : ∀ {as : List Addr} {vs : List (Int × Int)} {n : Nat} {a : Addr} {z : Int × Int} {f : Int × Int → Int × Int}, PairsAt H as vs → as[n]? = some a → vs[n]? = some z → as.Nodup → PairsAt (upd H a (.lst [.int (f z).1, .int (f z).2])) as (vs.modify n f)
  | _, _, _, _, _, _, .nil, e, _, _ => by simp at e
  | a0 :: as, v0 :: vs, 0, a, z, f, .cons h t, e, e2, nd => by
    simp at e e2
    subst e e2
    rw [List.nodup_cons] at nd
    exact .cons upd_same (t.wr fun b m q => nd.1 (q ▸ m))
  | a0 :: as, v0 :: vs, n + 1, a, z, f, .cons h t, e, e2, nd => by
    have e' : as[n]? = some a := by simpa using e
    have e2' : vs[n]? = some z := by simpa using e2
    rw [List.nodup_cons] at nd
    have ne : a0 ≠ a := fun q => nd.1 (q ▸ List.mem_of_getElem? e')
    rw [List.modify_succ_cons]
    exact .cons (by rw [upd_ne ne]; exact h) (PairsAt.set (f := f) t e' e2' nd.2)
theorem PairsAt.at_ : ∀ {as : List Addr} {vs : List (Int × Int)} {n : Nat} {z : Int × Int}, PairsAt H as vs → vs[n]? = some z → ∃ a, as[n]? = some a ∧ H a = some (.lst [.int z.1, .int z.2])
  | _, _, _, _, .nil, e => by simp at e
  | a0 :: as, v0 :: vs, 0, z, .cons h t, e => by
    simp at e
    subst e
    exact ⟨a0, rfl, h⟩
  | a0 :: as, v0 :: vs, n + 1, z, .cons h t, e => by
    obtain ⟨a, h1, h2⟩ := PairsAt.at_ t (show vs[n]? = some z by simpa using e)
    exact ⟨a, by simpa using h1, h2⟩
theorem PairsAt.len : ∀ {as : List Addr} {vs : List (Int × Int)}, PairsAt H as vs → as.length = vs.length
  | _, _, .nil => rfl
  | _, _, .cons _ t => by rw [List.length_cons, List.length_cons, t.len]
theorem PairsAt.snoc {c : Addr} {z : Int × Int} (hc : H c = some (.lst [.int z.1, .int z.2])) : ∀ {as : List Addr} {vs : List (Int × Int)}, PairsAt H as vs → PairsAt H (as ++ [c]) (vs ++ [z])
  | _, _, .nil => .cons hc .nil
  | _, _, .cons h t => .cons h (t.snoc hc)
theorem LsAt.wW (h : LsAt K H B p a1 a2 a3 a4 a5 was os S) (A : LsApart p a1 a2 a3 a4 a5 was) {n : Nat} {a : Addr} {z : Int × Int} (f : Int × Int → Int × Int) (ha : was[n]? = some a) (hz : S.worth[n]? = some z) : LsAt K (upd H a (.lst [.int (f z).1, .int (f z).2])) B p a1 a2 a3 a4 a5 was os { S with worth := S.worth.modify n f } := by
  obtain ⟨p1, q1, r1, s1, t1, u1⟩ := A.w a (List.mem_of_getElem? ha)
  exact ⟨by rw [upd_ne p1.symm]; exact h.hp, by rw [upd_ne q1.symm]; exact h.h1, h.hos, by rw [upd_ne r1.symm]; exact h.h2, by rw [upd_ne s1.symm]; exact h.h3, h.hw.set (f := f) ha hz A.nd, by rw [upd_ne t1.symm]; exact h.h4, by rw [upd_ne u1.symm]; exact h.h5, h.ha⟩
theorem LsAt.w3 (h : LsAt K H B p a1 a2 a3 a4 a5 was os S) (A : LsApart p a1 a2 a3 a4 a5 was) {c : Addr} {z : Int × Int} (hc : H c = some (.lst [.int z.1, .int z.2])) (nc : c ≠ a3) : LsAt K (upd H a3 (.lst ((was ++ [c]).map V.ref))) B p a1 a2 a3 a4 a5 (was ++ [c]) os { S with worth := S.worth ++ [z] } := by
  obtain ⟨⟨_, _, p3, _⟩, ⟨_, q2, _⟩, ⟨r1, _⟩, ⟨s1, s2⟩, _⟩ := A.h
  refine ⟨by rw [upd_ne p3]; exact h.hp, by rw [upd_ne q2]; exact h.h1, h.hos, by rw [upd_ne r1]; exact h.h2, upd_same, ?_, by rw [upd_ne s1.symm]; exact h.h4, by rw [upd_ne s2.symm]; exact h.h5, h.ha⟩
  exact (h.hw.snoc hc).wr fun a m => (List.mem_append.mp m).elim (fun m => (A.w a m).2.2.2.1) fun m => by rw [List.mem_singleton.mp m]; exact nc
end
section
variable {K : PySem.W.Frag} {base : Hp} {O0 O : Hid} {σ : L2.St} {H : Hp} {env : PL.Env} {i : Nat} {S0 : LS}
/-- the state of slot i: its cells, and what is asked of a change -/
theorem Sat.ls (S : Sat K base O0 O σ H env) (hi : env[i]? = some (.ob (.ls S0))) : ∃ p a1 a2 a3 a4 a5 was os, σ[i]? = some (some (.ref p)) ∧ LsAt K H (vis O H) p a1 a2 a3 a4 a5 was os S0 ∧ (lsFp p a1 a2 a3 a4 a5 was).Nodup ∧ (∀ a ∈ lsFp p a1 a2 a3 a4 a5 was, O a = true ∧ base a = none) ∧
    ∀ (H' : Hp) (b1 : Addr) (was' : List Addr) (os' : List V) (S' : LS), Moved H H' (lsFp p a1 a2 a3 a4 a5 was) (lsFp p b1 a2 a3 a4 a5 was') → (PL.Ex (vis O H) (vis (hidL O (lsFp p b1 a2 a3 a4 a5 was')) H') → LsAt K H' (vis (hidL O (lsFp p b1 a2 a3 a4 a5 was')) H') p b1 a2 a3 a4 a5 was' os' S') →
      ∃ O', PL.Ex (vis O H) (vis O' H') ∧ Sat K base O0 O' σ H' (env.set i (.ob (.ls S'))) := by
  obtain ⟨v, fp, hx, oa, r0, mv⟩ := S.mutOb hi
  obtain ⟨p, a1, a2, a3, a4, a5, was, os, rfl, rfl, h, nd⟩ := ls_obr r0
  refine ⟨p, a1, a2, a3, a4, a5, was, os, hx, h, nd, oa, fun H' b1 was' os' S' M hn => ?_⟩
  have ev := vis_moved (O := O) M.keep M.newc (fun a m => (oa a m).1)
  obtain ⟨e1, S1⟩ := mv H' _ (.ls S') M (obr_ls (hn ev) M.nd)
  exact ⟨_, e1, S1⟩
end
/-! ### statements -/
def sOpnApp (i : Nat) (f : PL.Env → Option PyData) : PL.Env → Option Out := fun env => match env[i]? with
  | some (.ob (.ls S)) => (f env).bind fun d => match d with
    | .tuple [.str x, .int n] => if S.opn.length < 100000 then some (.nx (env.set i (.ob (.ls { S with opn := S.opn ++ [(x, n)] })))) else none
    | _ => none
  | _ => none
def sTold (i : Nat) (f : PL.Env → Option PyData) : PL.Env → Option Out := fun env => match env[i]? with
  | some (.ob (.ls S)) => (f env).bind fun d => match d with
    | .int n => if S.told.length < 100000 then some (.nx (env.set i (.ob (.ls { S with told := S.told ++ [n] })))) else none
    | _ => none
  | _ => none
def sMany (i : Nat) (f : PL.Env → Option PyData) : PL.Env → Option Out := fun env => match env[i]? with
  | some (.ob (.ls S)) => (f env).bind fun d => match d with
    | .int n => some (.nx (env.set i (.ob (.ls { S with many := n }))))
    | _ => none
  | _ => none
section
variable {K : PySem.W.Frag} {i : Nat} {te tk : TE} {f g : PL.Env → Option PyData}
theorem dens_opnapp (h : DenP K te f) : DenS K (tDrop (tBM K "list" rAppend (tDGet (tVar i) (tC (.str "open"))) (tCons te tNil))) (sOpnApp i f) := by
  intro base O0 O σ H env o D S e P
  unfold sOpnApp at e
  split at e
  · rename_i S0 hi
    cases k1 : f env with
    | none => simp [k1] at e
    | some d =>
      simp only [k1, Option.bind_some] at e
      split at e
      · rename_i x n
        split at e
        case isFalse => cases e
        rename_i hl
        cases e
        obtain ⟨p, a1, a2, a3, a4, a5, was, os, hx, h0, nd0, _, _⟩ := S.ls hi
        refine ⟨_, hx, p, _, rfl, (get_open h0.hp).1, Or.inl ⟨rfl, os, SqL.of h0.h1⟩, ?_⟩
        refine h base O0 O σ H env _ S k1 _ fun v H1 x1 rv => ?_
        obtain ⟨p', b1, b2, b3, b4, b5, was1, os1, hx1, h1, nd1, _, mv⟩ := (S.mono x1).ls hi
        rw [hx] at hx1
        cases hx1
        have e1 : a1 = b1 := by
          have z := x1 _ _ h0.hp
          rw [h1.hp] at z
          injection z with z
          injection z with z
          injection z with z _
          injection z with _ z
          injection z with z
          exact z.symm
        subst e1
        refine ⟨a1, os1, v, rfl, rfl, h1.h1, ?_, ?_⟩
        · have := h1.hos.length
          rw [List.length_map] at this
          rw [this]
          have := big 100000 (Nat.le_refl _)
          omega
        · obtain ⟨O', ev, S2⟩ := mv _ a1 was1 (os1 ++ [v]) { S0 with opn := S0.opn ++ [(x, n)] } (Moved.wr nd1 (by unfold lsFp; simp)) fun ev => (h1.seen ev).w1 (ls_apart nd1) (by
            rw [List.map_append]
            exact (h1.hos.mono ev).append (.cons (rv.mono ev) .nil))
          exact P O' σ _ ((vis_mono x1).trans ev) S2
      · cases e
  · cases e
theorem dens_told (h : DenP K te f) : DenS K (tDrop (tBM K "list" rAppend (tDGet (tVar i) (tC (.str "told"))) (tCons te tNil))) (sTold i f) := by
  intro base O0 O σ H env o D S e P
  unfold sTold at e
  split at e
  · rename_i S0 hi
    cases k1 : f env with
    | none => simp [k1] at e
    | some d =>
      simp only [k1, Option.bind_some] at e
      split at e
      · rename_i n
        split at e
        case isFalse => cases e
        rename_i hl
        cases e
        obtain ⟨p, a1, a2, a3, a4, a5, was, os, hx, h0, nd0, _, _⟩ := S.ls hi
        refine ⟨_, hx, p, _, rfl, (get_open h0.hp).2.2.2.1, Or.inl ⟨rfl, _, SqL.of h0.h4⟩, ?_⟩
        refine h base O0 O σ H env _ S k1 _ fun v H1 x1 rv => ?_
        cases rv
        obtain ⟨p', b1, b2, b3, b4, b5, was1, os1, hx1, h1, nd1, _, mv⟩ := (S.mono x1).ls hi
        rw [hx] at hx1
        cases hx1
        have e1 : a4 = b4 := by
          have z := x1 _ _ h0.hp
          rw [h1.hp] at z
          simp only [Option.some.injEq, HO.dK.injEq, List.cons.injEq, Prod.mk.injEq, V.ref.injEq] at z
          exact z.2.2.2.1.2.symm
        subst e1
        refine ⟨a4, _, .int n, rfl, rfl, h1.h4, ?_, ?_⟩
        · rw [List.length_map]
          have := big 100000 (Nat.le_refl _)
          omega
        · obtain ⟨O', ev, S2⟩ := mv _ b1 was1 os1 { S0 with told := S0.told ++ [n] } (Moved.wr (c := a4) (o := .lst ((S0.told ++ [n]).map V.int)) nd1 (by unfold lsFp; simp)) fun ev => (h1.seen ev).w4 (ls_apart nd1) _
          rw [List.map_append] at ev S2
          exact P O' σ _ ((vis_mono x1).trans ev) S2
      · cases e
  · cases e
theorem dens_many (h : DenP K te f) : DenS K (sDPut (tVar i) (tC (.str "many")) te) (sMany i f) := by
  intro base O0 O σ H env o D S e P
  unfold sMany at e
  split at e
  · rename_i S0 hi
    cases k1 : f env with
    | none => simp [k1] at e
    | some d =>
      simp only [k1, Option.bind_some] at e
      split at e
      · rename_i n
        cases e
        refine h base O0 O σ H env _ S k1 _ fun v H1 x1 rv => ?_
        cases rv
        obtain ⟨p, a1, a2, a3, a4, a5, was, os, hx, h1, nd1, _, mv⟩ := (S.mono x1).ls hi
        refine ⟨_, hx, p, _, rfl, DPut.k (k := kS "many") h1.hp (by rw [sizeLine_eq]; show 6 < _; omega), ?_⟩
        have hput : putK [(kS "open", V.ref a1), (kS "held", .ref a2), (kS "worth", .ref a3), (kS "told", .ref a4), (kS "given", .ref a5), (kS "many", .int S0.many)] (kS "many") (.int n) = [(kS "open", V.ref a1), (kS "held", .ref a2), (kS "worth", .ref a3), (kS "told", .ref a4), (kS "given", .ref a5), (kS "many", .int n)] := by
          have ne : ∀ x y : Str, decide (x = y) = false → ¬ kS x = kS y := fun x y h e => of_decide_eq_false h (kS_inj.mp e)
          unfold putK
          rw [if_pos (by simp), List.map_cons, List.map_cons, List.map_cons, List.map_cons, List.map_cons, List.map_cons]
          rw [if_neg (ne "open" "many" (by decide +kernel)), if_neg (ne "held" "many" (by decide +kernel)), if_neg (ne "worth" "many" (by decide +kernel)), if_neg (ne "told" "many" (by decide +kernel)), if_neg (ne "given" "many" (by decide +kernel)), if_pos rfl]
          rfl
        rw [hput]
        obtain ⟨O', ev, S2⟩ := mv _ a1 was os { S0 with many := n } (Moved.wr nd1 (by unfold lsFp; simp)) fun ev => (h1.seen ev).wP (ls_apart nd1) n
        exact P O' σ _ ((vis_mono x1).trans ev) S2
      · cases e
  · cases e
end
end PL
/-! The law's own state, changed: names, values, what is given, what is open. -/
namespace PL
open PySem L2 PySem.Spec PyProof.Rows
def sHold (i : Nat) (f g : PL.Env → Option PyData) : PL.Env → Option Out := fun env => match env[i]? with
  | some (.ob (.ls S)) => (g env).bind fun z => (f env).bind fun d => match d, z with
    | .str x, .int n => if 0 ≤ n ∧ S.held.length < 100000 then some (.nx (env.set i (.ob (.ls { S with held := putA S.held x n.toNat })))) else none
    | _, _ => none
  | _ => none
def sWorth (i : Nat) (f : PL.Env → Option (List PyData)) : PL.Env → Option Out := fun env => match env[i]? with
  | some (.ob (.ls S)) => (f env).bind fun ds => match ds with
    | [.int w, .int h] => if S.worth.length < 100000 then some (.nx (env.set i (.ob (.ls { S with worth := S.worth ++ [(w, h)] })))) else none
    | _ => none
  | _ => none
def sGivn (i : Nat) (f : PL.Env → Option (List PyData)) : PL.Env → Option Out := fun env => match env[i]? with
  | some (.ob (.ls S)) => (f env).bind fun ds => (asInts ds).bind fun ns => if S.given.length + ns.length ≤ 100000 then some (.nx (env.set i (.ob (.ls { S with given := S.given ++ ns })))) else none
  | _ => none
def asQ : PyData → Option (Str × Int)
  | .tuple [.str x, .int n] => some (x, n)
  | _ => none
def sOpnSet (i : Nat) (f : PL.Env → Option (List PyData)) : PL.Env → Option Out := fun env => match env[i]? with
  | some (.ob (.ls S)) => (f env).bind fun ds => (decL asQ ds).map fun l => .nx (env.set i (.ob (.ls { S with opn := l })))
  | _ => none
theorem asQ_inv {d : PyData} {q : Str × Int} (h : asQ d = some q) : d = .tuple [.str q.1, .int q.2] := by
  unfold asQ at h
  split at h
  · cases h
    rfl
  · cases h
section
variable {K : PySem.W.Frag} {i : Nat} {te tk : TE} {f g : PL.Env → Option PyData} {fn : PL.Env → Option (List PyData)}
theorem same_ls {H H1 : Hp} {p a1 a2 a3 a4 a5 b1 b2 b3 b4 b5 : Addr} {n m : Int} (x : PL.Ex H H1) (h : H p = some (.dK [(kS "open", .ref a1), (kS "held", .ref a2), (kS "worth", .ref a3), (kS "told", .ref a4), (kS "given", .ref a5), (kS "many", .int n)]))
    (h1 : H1 p = some (.dK [(kS "open", .ref b1), (kS "held", .ref b2), (kS "worth", .ref b3), (kS "told", .ref b4), (kS "given", .ref b5), (kS "many", .int m)])) : a1 = b1 ∧ a2 = b2 ∧ a3 = b3 ∧ a4 = b4 ∧ a5 = b5 := by
  have z := x _ _ h
  rw [h1] at z
  simp only [Option.some.injEq, HO.dK.injEq, List.cons.injEq, Prod.mk.injEq, V.ref.injEq] at z
  exact ⟨z.1.2.symm, z.2.1.2.symm, z.2.2.1.2.symm, z.2.2.2.1.2.symm, z.2.2.2.2.1.2.symm⟩
theorem dens_hold (hk : DenP K tk f) (h : DenP K te g) : DenS K (sDPut (tDGet (tVar i) (tC (.str "held"))) tk te) (sHold i f g) := by
  intro base O0 O σ H env o D S e P
  unfold sHold at e
  split at e
  · rename_i S0 hi
    cases k1 : g env with
    | none => simp [k1] at e
    | some z =>
      cases k2 : f env with
      | none => simp [k1, k2] at e
      | some d =>
        simp only [k1, k2, Option.bind_some] at e
        split at e
        · rename_i x n
          split at e
          case isFalse => cases e
          rename_i hc
          cases e
          refine h base O0 O σ H env _ S k1 _ fun v H1 x1 rv => ?_
          cases rv
          obtain ⟨p, a1, a2, a3, a4, a5, was, os, hx, h1, nd1, _, _⟩ := (S.mono x1).ls hi
          refine ⟨_, hx, p, _, rfl, (get_open h1.hp).2.1, ?_⟩
          refine hk base O0 O σ H1 env _ (S.mono x1) k2 _ fun u H2 x2 ru => ?_
          cases ru
          obtain ⟨p', b1, b2, b3, b4, b5, was2, os2, hx2, h2, nd2, _, mv⟩ := ((S.mono x1).mono x2).ls hi
          rw [hx] at hx2
          cases hx2
          obtain ⟨_, rfl, _⟩ := same_ls x2 h1.hp h2.hp
          have hd := DPut.k (k := kS x) (v := V.int n) h2.h2 (by rw [List.length_map, sizeLine_eq]; omega)
          refine ⟨a2, _, rfl, hd, ?_⟩
          have hn : (n.toNat : Int) = n := by omega
          have hput : putK (S0.held.map fun q => (kS q.1, V.int (q.2 : Int))) (kS x) (.int n) = (putA S0.held x n.toNat).map fun q => (kS q.1, V.int (q.2 : Int)) := by
            have := putK_kvs (f := fun m : Nat => V.int (m : Int)) S0.held x n.toNat
            unfold kvs at this
            rw [hn] at this
            exact this
          rw [hput]
          obtain ⟨O', ev, S2⟩ := mv _ b1 was2 os2 { S0 with held := putA S0.held x n.toNat } (Moved.wr nd2 (by unfold lsFp; simp)) fun ev => (h2.seen ev).w2 (ls_apart nd2) _
          exact P O' σ _ ((vis_mono (x1.trans x2)).trans ev) S2
        · cases e
  · cases e
theorem dens_worth (h : DenN K te fn) : DenS K (tDrop (tBM K "list" rAppend (tDGet (tVar i) (tC (.str "worth"))) (tCons te tNil))) (sWorth i fn) := by
  intro base O0 O σ H env o D S e P
  unfold sWorth at e
  split at e
  · rename_i S0 hi
    cases k1 : fn env with
    | none => simp [k1] at e
    | some ds =>
      simp only [k1, Option.bind_some] at e
      split at e
      · rename_i w z
        split at e
        case isFalse => cases e
        rename_i hl
        cases e
        obtain ⟨p, a1, a2, a3, a4, a5, was, os, hx, h0, nd0, oa, mv⟩ := S.ls hi
        refine ⟨_, hx, p, _, rfl, (get_open h0.hp).2.2.1, Or.inl ⟨rfl, _, SqL.of h0.h3⟩, ?_⟩
        refine h base O0 O σ H env _ S k1 _ fun c vs H1 hc x1 h1 r => ?_
        have hv : vs = [.int w, .int z] := by
          cases r with
          | cons r t =>
            cases r
            cases t with
            | cons r t =>
              cases r
              cases t
              rfl
        subst hv
        have nc : ∀ b ∈ lsFp p a1 a2 a3 a4 a5 was, b ≠ c := fun b m q => h0.live b m (q ▸ hc)
        refine ⟨a3, _, .ref c, rfl, rfl, x1 _ _ h0.h3, ?_, ?_⟩
        · rw [List.length_map, h0.hw.len]
          have := big 100000 (Nat.le_refl _)
          omega
        · have A := ls_apart nd0
          have M : Moved H (upd H1 a3 (.lst (was.map V.ref ++ [.ref c]))) (lsFp p a1 a2 a3 a4 a5 was) (lsFp p a1 a2 a3 a4 a5 (was ++ [c])) := by
            refine ⟨fun b u hb n => ?_, fun b hb => ?_, fun b m => ?_, ?_⟩
            · rw [upd_ne (fun q => n (by rw [q]; unfold lsFp; simp))]
              exact x1 _ _ hb
            · by_cases q : b = a3
              · rw [q, upd_same]
                exact fun z => nomatch z
              · rw [upd_ne q]
                cases hq : H b with
                | none => exact absurd hq hb
                | some u => rw [x1 _ _ hq]; exact fun z => nomatch z
            · unfold lsFp at m ⊢
              simp only [List.mem_cons, List.mem_append, List.not_mem_nil, or_false] at m ⊢
              rcases m with m | m | m | m | m | m | m | m
              · exact .inl (.inl m)
              · exact .inl (.inr (.inl m))
              · exact .inl (.inr (.inr (.inl m)))
              · exact .inl (.inr (.inr (.inr (.inl m))))
              · exact .inl (.inr (.inr (.inr (.inr (.inl m)))))
              · exact .inl (.inr (.inr (.inr (.inr (.inr (.inl m))))))
              · exact .inl (.inr (.inr (.inr (.inr (.inr (.inr m))))))
              · exact .inr (by rw [m]; exact hc)
            · have : lsFp p a1 a2 a3 a4 a5 (was ++ [c]) = lsFp p a1 a2 a3 a4 a5 was ++ [c] := rfl
              rw [this, List.nodup_append]
              exact ⟨nd0, by simp, fun a ma b mb => by rw [List.mem_singleton.mp mb]; exact nc a ma⟩
          have h0' : LsAt K H1 (vis O H) p a1 a2 a3 a4 a5 was os S0 := h0.sub fun a _ o ho => x1 _ _ ho
          have e3 : was.map V.ref ++ [V.ref c] = (was ++ [c]).map V.ref := by rw [List.map_append]; rfl
          obtain ⟨O', ev, S2⟩ := mv _ a1 (was ++ [c]) os { S0 with worth := S0.worth ++ [(w, z)] } M fun ev => by
            rw [e3] at ev ⊢
            exact (h0'.seen ev).w3 A (c := c) (z := (w, z)) h1 (fun q => nc a3 (by unfold lsFp; simp) q.symm)
          exact P O' σ _ ev S2
      · cases e
  · cases e
theorem dens_givn (h : DenN K te fn) : DenS K (tDrop (tBM K "list" rExtend (tDGet (tVar i) (tC (.str "given"))) (tCons te tNil))) (sGivn i fn) := by
  intro base O0 O σ H env o D S e P
  unfold sGivn at e
  split at e
  · rename_i S0 hi
    cases k1 : fn env with
    | none => simp [k1] at e
    | some ds =>
      simp only [k1, Option.bind_some] at e
      cases k2 : asInts ds with
      | none => simp [k2] at e
      | some ns =>
        simp only [k2, Option.bind_some] at e
        split at e
        case isFalse => cases e
        rename_i hl
        cases e
        have hds := asInts_inv k2
        subst hds
        obtain ⟨p, a1, a2, a3, a4, a5, was, os, hx, h0, nd0, _, _⟩ := S.ls hi
        refine ⟨_, hx, p, _, rfl, (get_open h0.hp).2.2.2.2.1, Or.inl ⟨rfl, _, SqL.of h0.h5⟩, ?_⟩
        refine h base O0 O σ H env _ S k1 _ fun c vs H1 hc x1 h1 r => ?_
        have hv := rp_ints r
        subst hv
        obtain ⟨p', b1, b2, b3, b4, b5, was1, os1, hx1, h2, nd1, _, mv⟩ := (S.mono x1).ls hi
        rw [hx] at hx1
        cases hx1
        obtain ⟨_, _, _, _, rfl⟩ := same_ls x1 h0.hp h2.hp
        refine ⟨a5, c, _, _, rfl, rfl, h2.h5, h1, ?_, ?_⟩
        · rw [List.length_map, List.length_map]
          exact big _ hl
        · obtain ⟨O', ev, S2⟩ := mv _ b1 was1 os1 { S0 with given := S0.given ++ ns } (Moved.wr (c := a5) (o := .lst ((S0.given ++ ns).map V.int)) nd1 (by unfold lsFp; simp)) fun ev => (h2.seen ev).w5 (ls_apart nd1) _
          rw [List.map_append] at ev S2
          exact P O' σ _ ((vis_mono x1).trans ev) S2
  · cases e
end
end PL
/-! Defs that change the law's own state. -/
namespace PL
open PySem L2 PySem.Spec PyProof.Rows
/-- fp is shown (it is no one's), fp' hidden -/
def swapH (O : Hid) (fp fp' : List Addr) : Hid := fun a => (O a && !decide (a ∈ fp)) || decide (a ∈ fp')
theorem swapH_or {O : Hid} {fp fp' : List Addr} {a : Addr} (h : swapH O fp fp' a = true) : (O a = true ∧ a ∉ fp) ∨ a ∈ fp' := by
  unfold swapH at h
  simpa using h
theorem swapH_of {O : Hid} {fp fp' : List Addr} {a : Addr} (h : (O a = true ∧ a ∉ fp) ∨ a ∈ fp') : swapH O fp fp' a = true := by
  unfold swapH
  simpa using h
structure Kept (H H' : Hp) (fp fp' : List Addr) : Prop where
  keep : ∀ b o, H b = some o → b ∉ fp → H' b = some o
  newc : ∀ b ∈ fp', b ∈ fp ∨ H b = none
section
variable {K : PySem.W.Frag} {base : Hp} {O0 O : Hid} {σ : L2.St} {H H' : Hp} {env : PL.Env}
theorem vis_swap {fp fp' : List Addr} (k : Kept H H' fp fp') (hf : ∀ a ∈ fp, O a = true) : PL.Ex (vis O H) (vis (swapH O fp fp') H') := fun b o hb => by
  have h1 := vis_le b o hb
  have nb : O b = false := by
    cases z : O b with
    | false => rfl
    | true =>
      unfold vis at hb
      rw [if_pos z] at hb
      cases hb
  have nf : b ∉ fp := fun m => by rw [hf b m] at nb; cases nb
  refine vis_at ?_ (k.keep b o h1 nf)
  cases z : swapH O fp fp' b with
  | false => rfl
  | true =>
    rcases swapH_or z with z | z
    · rw [z.1] at nb; cases nb
    · rcases k.newc b z with m | m
      · exact absurd m nf
      · rw [m] at h1; cases h1
theorem Sat.swapOb {i : Nat} {s : ObS} (S : Sat K base O0 O σ H env) (hi : env[i]? = some (.ob s)) : ∃ v fp, σ[i]? = some (some v) ∧ (∀ a ∈ fp, O a = true ∧ base a = none) ∧ ObR K v fp H (vis O H) s ∧
    ∀ (H' : Hp) (fp' : List Addr) (s' : ObS), Kept H H' fp fp' → ObR K v fp' H' (vis (swapH O fp fp') H') s' → PL.Ex (vis O H) (vis (swapH O fp fp') H') ∧ Sat K base O0 (swapH O fp fp') σ H' (env.set i (.ob s')) := by
  obtain ⟨fps, S⟩ := S
  have hil : i < env.length := (List.getElem?_eq_some_iff.mp hi).1
  have hs : i < σ.length := by rw [S.len]; exact hil
  obtain ⟨v, hx, oa, r⟩ := S.sl i _ _ (List.getElem?_eq_getElem hs) hi
  have hx' : σ[i]? = some (some v) := by rw [List.getElem?_eq_getElem hs, hx]
  refine ⟨v, fps i, hx', oa, r, fun H' fp' s' M r' => ?_⟩
  have ev := vis_swap (O := O) M (fun a m => (oa a m).1)
  have es_ : σ.set i (some v) = σ := by
    apply List.ext_getElem?
    intro k
    by_cases q : i = k
    · subst q
      rw [List.getElem?_set_self hs, hx']
    · rw [List.getElem?_set_ne q]
  have g := S.put (O' := swapH O (fps i) fp') (H' := H') (fp := fp') (i := i) (x := some v) (s := .ob s') (fun b o hb => M.keep b o (S.ex b o hb) fun m => by rw [(oa b m).2] at hb; cases hb) ev (fun a q => by
      rcases swapH_or q with q | q
      · exact S.new a q.1
      · rcases M.newc a q with m | m
        · exact .inr (oa a m).2
        · exact .inr (S.ex.free m)) (fun a q => swapH_of (.inl ⟨S.sub a q, fun m => S.b0 a q (oa a m).2⟩)) (fun a q => by
      rcases swapH_or q with q | q
      · cases z : H a with
        | none => exact absurd z (S.all a q.1)
        | some o =>
          rw [M.keep a o z q.2]
          exact fun z => nomatch z
      · exact r'.2.1 a q)
    (fun j n a m => by
      have nf : a ∉ fps i := fun q => S.sep j i a n m q
      have la := S.all a (S.cells j a m).1
      refine ⟨?_, swapH_of (.inl ⟨(S.cells j a m).1, nf⟩), fun q => ?_⟩
      · cases z : H a with
        | none => exact absurd z la
        | some o => exact M.keep a o z nf
      · rcases M.newc a q with z | z
        · exact nf z
        · exact la z) ⟨v, rfl, fun a m => ⟨swapH_of (.inr m), (by
      rcases M.newc a m with z | z
      · exact (oa a z).2
      · exact S.ex.free z)⟩, r'⟩ hil
  rw [es_] at g
  exact ⟨ev, _, g⟩
end
/-! ### such a def's promise -/
def spM (K : PySem.W.Frag) (n i : Nat) (f : LS → List PyData → Option LS) : Sp := fun vs H Q _ => ∃ (O : Hid) (ds : List PyData) (p : Addr) (fp : List Addr) (S S' : LS), vs.length = n ∧ ds.length = n ∧ (∀ a, O a = true → H a ≠ none) ∧ vs[i]? = some (.ref p) ∧ (∀ a ∈ fp, O a = true) ∧ ObR K (.ref p) fp H (vis O H) (.ls S) ∧ S.here = some p ∧
  (∀ j v d, j ≠ i → vs[j]? = some v → ds[j]? = some d → Rp K (vis O H) v d) ∧ f S ds = some S' ∧ ∀ H' fp', Kept H H' fp fp' → ObR K (.ref p) fp' H' (vis (swapH O fp fp') H') (.ls S') → Q .non H'
def fnM (n i : Nat) (F : PL.Env → Option Out) : LS → List PyData → Option LS := fun S ds => match F ((fEnv n ds).set i (.ob (.ls S))) with
  | some (.nx e) => match e[i]? with
    | some (.ob (.ls S')) => if S'.here = S.here then some S' else none
    | _ => none
  | _ => none
section
variable {K : PySem.W.Frag}
theorem sat_startM {O : Hid} {H : Hp} {vs : List V} {ds : List PyData} {N : List Str} {i : Nat} {p : Addr} {fp : List Addr} {S : LS} (al : ∀ a, O a = true → H a ≠ none) (hl : vs.length = ds.length) (hv : vs[i]? = some (.ref p)) (hf : ∀ a ∈ fp, O a = true) (ob : ObR K (.ref p) fp H (vis O H) (.ls S))
    (r : ∀ j v d, j ≠ i → vs[j]? = some v → ds[j]? = some d → Rp K (vis O H) v d) (hn : vs.length ≤ N.length) : Sat K (fun a => if a ∈ fp then none else H a) (fun a => O a && !decide (a ∈ fp)) O (L2.start N vs) H ((fEnv N.length ds).set i (.ob (.ls S))) := by
  have hiv : i < vs.length := (List.getElem?_eq_some_iff.mp hv).1
  refine ⟨fun j => if j = i then fp else [], fun a o h => ?_, fun a h => ?_, fun a h => ?_, fun a h => ?_, al, ?_, fun j x s h1 h2 => ?_, fun j hj => ?_, fun j k a n h1 h2 => ?_⟩
  · try simp only at h
    split at h
    · cases h
    · exact h
  · by_cases m : a ∈ fp
    · exact .inr (by simp [m])
    · exact .inl (by simp [m, h])
  · have : O a = true ∧ a ∉ fp := by simpa using h
    simp only [if_neg this.2]
    exact al a this.1
  · have : O a = true ∧ a ∉ fp := by simpa using h
    exact this.1
  · unfold L2.start fEnv
    rw [List.length_set, List.length_append, List.length_append, List.length_map, List.length_map, List.length_replicate, List.length_replicate, hl]
  · by_cases e : j = i
    · subst e
      have h2' : s = .ob (.ls S) := by
        rw [List.getElem?_set_self (by
          unfold fEnv
          rw [List.length_append, List.length_map]
          omega)] at h2
        exact (Option.some.inj h2).symm
      subst h2'
      have h1' : x = some (.ref p) := by
        unfold L2.start at h1
        rw [List.getElem?_append_left (by rw [List.length_map]; exact hiv), List.getElem?_map, hv] at h1
        exact (Option.some.inj h1).symm
      subst h1'
      show ∃ v, some (V.ref p) = some v ∧ _
      simp only [if_pos]
      exact ⟨_, rfl, fun a m => ⟨hf a m, if_pos m⟩, ob⟩
    · simp only [if_neg e]
      rw [List.getElem?_set_ne (fun q => e q.symm)] at h2
      unfold L2.start at h1
      unfold fEnv at h2
      by_cases hi : j < vs.length
      · rw [List.getElem?_append_left (by rw [List.length_map]; exact hi), List.getElem?_map] at h1
        rw [List.getElem?_append_left (by rw [List.length_map, ← hl]; exact hi), List.getElem?_map] at h2
        cases q : ds[j]? with
        | none => rw [q] at h2; cases h2
        | some d =>
          rw [q] at h2
          cases h2
          cases q2 : vs[j]? with
          | none => rw [q2] at h1; cases h1
          | some v =>
            rw [q2] at h1
            cases h1
            exact ⟨⟨v, rfl, r j v d e q2 q⟩, rfl⟩
      · rw [List.getElem?_append_right (by rw [List.length_map]; omega), List.getElem?_replicate] at h1
        rw [List.getElem?_append_right (by rw [List.length_map, ← hl]; omega), List.getElem?_replicate] at h2
        split at h1
        · cases h1
          split at h2
          · cases h2
            exact ⟨rfl, rfl⟩
          · cases h2
        · cases h1
  · rw [List.length_set] at hj
    have : i < (fEnv N.length ds).length := by
      unfold fEnv
      rw [List.length_append, List.length_map]
      omega
    simp only [if_neg (show ¬ j = i by omega)]
  · try simp only at h1 h2
    split at h1
    · split at h2
      · rename_i e1 e2
        exact n (e1.trans e2.symm)
      · cases h2
    · cases h1
theorem fn_denM {P : Program} {w : World} {mg : Str → Option Value} {base : Heap} {x qual : Str} {st : Stmt} {f : Addr} {fd : FuncData} {N ps : List Str} {k i : Nat} {F : PL.Env → Option Out} (Fu : Fun K x qual st f fd) (S : FnScope N ps (defScope st)) (hn : ps.length ≤ N.length)
    (hb : ∀ (cdv : Value) (A : Around) (outer : List PySem.Env) (s : Shared) (H : Hp) (E : XK), Room k (A.deeper (envOfC qual (defScope st) s.heap.objs.size f cdv)) →
      ∃ t, PSs (cxOf CX0 P w K mg base N qual (defScope st) f cdv A outer s H E).nox (defBody st) t ∧ DenS K t F) : FnOk P w K mg base CX0 (k + 1) f fd ps (spM K ps.length i (fnM N.length i F)) := by
  refine Fu.ok S (fun vs H Q E h => ?_) (fun cdv A outer s H vs Q E hr h => ?_)
  · obtain ⟨O, ds, p, fp, S, S', hl, _⟩ := h
    exact hl
  · obtain ⟨O, ds, p, fp, S, S', hl, hl2, al, hv, hf, ob, hh, r, hfn, q⟩ := h
    obtain ⟨t, pt, dt⟩ := hb cdv A outer s H E hr
    refine ⟨t, pt, ?_⟩
    unfold fnM at hfn
    split at hfn
    · rename_i e k1
      split at hfn
      · rename_i S2 k2
        split at hfn
        case isFalse => cases hfn
        rename_i k3
        cases hfn
        refine dt _ _ O (L2.start N vs) H _ _ _ (sat_startM al (by rw [hl, hl2]) hv hf ob r (by omega)) k1 fun O2 σ2 H2 x S3 => ?_
        have S3' := S3
        obtain ⟨y, fp', hy, v', e1, oa, r'⟩ := S3.at_ k2
        obtain ⟨p', a1, a2, a3, a4, a5, was, os, rfl, rfl, h', nd'⟩ := ls_obr r'
        have hp : p' = p := h'.ha p (by rw [k3]; exact hh)
        subst hp
        have kp : Kept H H2 fp (lsFp p' a1 a2 a3 a4 a5 was) := by
          refine ⟨fun b o hb nb => S3'.ex b o (by simp only [if_neg nb]; exact hb), fun b m => ?_⟩
          have := (oa b m).2
          simp only at this
          split at this
          · exact .inl (by assumption)
          · exact .inr this
        refine q H2 _ kp ⟨r'.1, r'.2.1, r'.2.2.mono fun b o hb => ?_⟩
        have nb : O2 b = false := by
          cases z : O2 b with
          | false => rfl
          | true =>
            unfold vis at hb
            rw [if_pos z] at hb
            cases hb
        refine vis_at ?_ (vis_le _ _ hb)
        cases z : swapH O fp (lsFp p' a1 a2 a3 a4 a5 was) b with
        | false => rfl
        | true =>
          rcases swapH_or z with z | z
          · rw [S3'.sub b (by simp [z.1, z.2])] at nb
            cases nb
          · rw [(oa b z).1] at nb
            cases nb
      · cases hfn
    · cases hfn
end
end PL
/-! Objects of data fields; defs and methods that change a hidden object and tell something. -/
namespace PL
open PySem L2 PySem.Spec PyProof.Rows
def putFd (f : Str) (d : PyData) : List (Str × PyData) → List (Str × PyData)
  | [] => [(f, d)]
  | q :: r => if q.1 = f then (q.1, d) :: r else q :: putFd f d r
def getFd (f : Str) (fs : List (Str × PyData)) : Option PyData := getA fs f
section
variable {K : PySem.W.Frag} {B : Hp}
theorem get_rp {f : Str} {d : PyData} : ∀ {fs : List (Str × PyData)} {vs : List V}, vs.length = fs.length → RpAll K B vs (fs.map (·.2)) → getFd f fs = some d → ∃ v, ((fs.map (·.1)).zip vs).lookup f = some v ∧ Rp K B v d
  | [], _, _, _, h => by cases h
  | q :: fs, [], hl, _, _ => by cases hl
  | q :: fs, v :: vs, hl, .cons r t, h => by
    unfold getFd getA at h
    by_cases e : q.1 = f
    · rw [List.find?_cons_of_pos (by simp [e])] at h
      cases h
      refine ⟨v, ?_, r⟩
      show (match f == q.1 with | true => some v | false => _) = _
      rw [show (f == q.1) = true from beq_iff_eq.mpr e.symm]
    · rw [List.find?_cons_of_neg (by simp [e])] at h
      obtain ⟨u, h1, h2⟩ := get_rp (fs := fs) (vs := vs) (by simpa using hl) t h
      refine ⟨u, ?_, h2⟩
      show (match f == q.1 with | true => some v | false => ((fs.map fun (z : Str × PyData) => z.1).zip vs).lookup f) = _
      rw [show (f == q.1) = false from beq_eq_false_iff_ne.mpr (fun (z : f = q.1) => e z.symm)]
      exact h1
theorem put_rp {f : Str} {d : PyData} {v : V} (r : Rp K B v d) : ∀ {fs : List (Str × PyData)} {vs : List V}, vs.length = fs.length → RpAll K B vs (fs.map (·.2)) → ∃ vs', putF f v ((fs.map (·.1)).zip vs) = ((putFd f d fs).map (·.1)).zip vs' ∧ vs'.length = (putFd f d fs).length ∧ RpAll K B vs' ((putFd f d fs).map (·.2))
  | [], [], _, _ => ⟨[v], rfl, rfl, .cons r .nil⟩
  | [], _ :: _, hl, _ => by cases hl
  | q :: fs, [], hl, _ => by cases hl
  | q :: fs, u :: vs, hl, .cons r1 t => by
    by_cases e : q.1 = f
    · refine ⟨v :: vs, ?_, ?_, ?_⟩
      · show (if q.1 = f then (q.1, v) :: (fs.map (·.1)).zip vs else _) = _
        unfold putFd
        rw [if_pos e, if_pos e]
        rfl
      · unfold putFd
        rw [if_pos e, List.length_cons, List.length_cons]
        simpa using hl
      · unfold putFd
        rw [if_pos e]
        exact .cons r t
    · obtain ⟨vs', h1, h2, h3⟩ := put_rp r (fs := fs) (vs := vs) (by simpa using hl) t
      refine ⟨u :: vs', ?_, ?_, ?_⟩
      · show (if q.1 = f then _ else (q.1, u) :: putF f v ((fs.map (·.1)).zip vs)) = _
        unfold putFd
        rw [if_neg e, if_neg e, h1]
        rfl
      · unfold putFd
        rw [if_neg e, List.length_cons, List.length_cons, h2]
      · unfold putFd
        rw [if_neg e]
        exact .cons r1 h3
theorem putFd_len (f : Str) (d : PyData) : ∀ fs : List (Str × PyData), (putFd f d fs).length ≤ fs.length + 1
  | [] => Nat.le_refl _
  | q :: fs => by
    unfold putFd
    split
    · rw [List.length_cons, List.length_cons]; omega
    · rw [List.length_cons, List.length_cons]
      have := putFd_len f d fs
      omega
end
section
variable {K : PySem.W.Frag} {base : Hp} {O0 O : Hid} {σ : L2.St} {H : Hp} {env : PL.Env} {i j : Nat} {C : Addr}
theorem ins_obr {v : V} {fp : List Addr} {B : Hp} {fs : List (Str × PyData)} {here : Option Addr} (r : ObR K v fp H B (.ins C fs here)) : ∃ p dx vs, v = .ref p ∧ fp = [p, dx] ∧ [p, dx].Nodup ∧ H p = some (.ins C dx ((fs.map (·.1)).zip vs)) ∧ H dx = some (.own p) ∧ vs.length = fs.length ∧ RpAll K B vs (fs.map (·.2)) ∧ ∀ q, here = some q → p = q := by
  obtain ⟨nd, _, p, dx, vs, rfl, rfl, h1, h2, h3, h4, h5⟩ := r
  exact ⟨p, dx, vs, rfl, rfl, nd, (rst_some h1).2, (rst_some h2).2, h3, h4, h5⟩
theorem obr_ins {p dx : Addr} {vs : List V} {B : Hp} {fs : List (Str × PyData)} {here : Option Addr} (nd : [p, dx].Nodup) (h1 : H p = some (.ins C dx ((fs.map (·.1)).zip vs))) (h2 : H dx = some (.own p)) (h3 : vs.length = fs.length) (h4 : RpAll K B vs (fs.map (·.2))) (h5 : ∀ q, here = some q → p = q) : ObR K (.ref p) [p, dx] H B (.ins C fs here) := by
  refine ⟨nd, fun a m => ?_, p, dx, vs, rfl, rfl, rst_at (by simp) h1, rst_at (by simp) h2, h3, h4, h5⟩
  simp only [List.mem_cons, List.not_mem_nil, or_false] at m
  rcases m with rfl | rfl
  · rw [h1]; exact fun z => by cases z
  · rw [h2]; exact fun z => by cases z
def eFld (C : Addr) (i : Nat) (f : Str) : PL.Env → Option PyData := fun env => match env[i]? with
  | some (.ob (.ins C' fs _)) => if C' = C then getFd f fs else none
  | _ => none
theorem den_fldI {f : Str} (T : Cls K C) (hn : NoAttr K C f) : DenP K (tFld K (tVar i) f) (eFld C i f) := by
  intro base O0 O σ H env d S e Q q
  unfold eFld at e
  split at e
  · rename_i C' fs here hi
    split at e
    case isFalse => cases e
    rename_i hC
    subst hC
    obtain ⟨v, fp, hx, oa, r, _⟩ := S.mutOb hi
    obtain ⟨p, dx, vs, rfl, rfl, nd, hp, hdx, hl, hr, hh⟩ := ins_obr r
    obtain ⟨u, h1, h2⟩ := get_rp hl hr e
    exact ⟨_, hx, p, C', dx, _, u, rfl, hp, T, hn, h1, q u H (Ex.refl H) h2⟩
  · cases e
def sFSet (C : Addr) (i : Nat) (f : Str) (g : PL.Env → Option PyData) : PL.Env → Option Out := fun env => (g env).bind fun d => match env[i]? with
  | some (.ob (.ins C' fs here)) => if C' = C ∧ fs.length < 900 then some (.nx (env.set i (.ob (.ins C (putFd f d fs) here)))) else none
  | _ => none
theorem Sat.putFld {fs : List (Str × PyData)} {here : Option Addr} {f : Str} {d : PyData} {v : V} (S : Sat K base O0 O σ H env) (hi : env[i]? = some (.ob (.ins C fs here))) (rv : Rp K (vis O H) v d) : ∃ p dx vs, σ[i]? = some (some (.ref p)) ∧ H p = some (.ins C dx ((fs.map (·.1)).zip vs)) ∧ vs.length = fs.length ∧
    ∃ O', PL.Ex (vis O H) (vis O' (upd H p (.ins C dx (putF f v ((fs.map (·.1)).zip vs))))) ∧ Sat K base O0 O' σ (upd H p (.ins C dx (putF f v ((fs.map (·.1)).zip vs)))) (env.set i (.ob (.ins C (putFd f d fs) here))) := by
  obtain ⟨v0, fp, hx, oa, r, mv⟩ := S.mutOb hi
  obtain ⟨p, dx, vs, rfl, rfl, nd, hp, hdx, hl, hr, hh⟩ := ins_obr r
  refine ⟨p, dx, vs, hx, hp, hl, ?_⟩
  have M : Moved H (upd H p (.ins C dx (putF f v ((fs.map (·.1)).zip vs)))) [p, dx] [p, dx] := Moved.wr nd (by simp)
  have ev := vis_moved (O := O) M.keep M.newc (fun a m => (oa a m).1)
  obtain ⟨vs', e1, e2, e3⟩ := put_rp (f := f) rv hl hr
  have ne : dx ≠ p := fun z => by
    rw [List.nodup_cons] at nd
    exact nd.1 (by rw [z]; exact List.mem_singleton.mpr rfl)
  obtain ⟨ev2, S2⟩ := mv _ [p, dx] (.ins C (putFd f d fs) here) M (obr_ins nd (by rw [upd_same, e1]) (by rw [upd_ne ne]; exact hdx) e2 (e3.mono ev) hh)
  exact ⟨_, ev2, S2⟩
theorem dens_fset {f : Str} {te : TE} {g : PL.Env → Option PyData} (T : Cls K C) (hn : NoAttr K C f) (h : DenP K te g) : DenS K (sFld K (tVar i) te f) (sFSet C i f g) := by
  intro base O0 O σ H env o D S e P
  unfold sFSet at e
  cases k1 : g env with
  | none => simp [k1] at e
  | some d =>
    simp only [k1, Option.bind_some] at e
    split at e
    · rename_i C' fs here hi
      split at e
      case isFalse => cases e
      rename_i hC
      obtain ⟨rfl, hlen⟩ := hC
      cases e
      refine h base O0 O σ H env d S k1 _ fun v H1 x1 rv => ?_
      obtain ⟨p, dx, vs, hx, hp, hl, O', ev, S2⟩ := (S.mono x1).putFld (f := f) hi rv
      refine ⟨_, hx, p, C', dx, _, rfl, hp, T, hn, ?_, P O' σ _ ((vis_mono x1).trans ev) S2⟩
      rw [List.length_zip, List.length_map, hl]
      omega
    · cases e
/-- o.f += n -/
def sFAug (C : Addr) (i : Nat) (f : Str) (g : PL.Env → Option PyData) : PL.Env → Option Out := fun env => match env[i]? with
  | some (.ob (.ins C' fs here)) => if C' = C ∧ fs.length < 900 then (getFd f fs).bind fun x => match x with
    | .int a => (g env).bind fun y => match y with
      | .int b => some (.nx (env.set i (.ob (.ins C (putFd f (.int (a + b)) fs) here))))
      | _ => none
    | _ => none else none
  | _ => none
theorem dens_faug {f : Str} {te : TE} {g : PL.Env → Option PyData} (T : Cls K C) (hn : NoAttr K C f) (h : DenP K te g) : DenS K (sFldAug K (tVar i) te rAdd f) (sFAug C i f g) := by
  intro base O0 O σ H env o D S e P
  unfold sFAug at e
  split at e
  · rename_i C' fs here hi
    split at e
    case isFalse => cases e
    rename_i hC
    obtain ⟨rfl, hlen⟩ := hC
    cases k1 : getFd f fs with
    | none => simp [k1] at e
    | some x =>
      simp only [k1, Option.bind_some] at e
      split at e
      · rename_i a
        cases k2 : g env with
        | none => simp [k2] at e
        | some y =>
          simp only [k2, Option.bind_some] at e
          split at e
          · rename_i b
            cases e
            obtain ⟨v0, fp, hx, _, r, _⟩ := S.mutOb hi
            obtain ⟨p, dx, vs, rfl, rfl, nd, hp, hdx, hl, hr, hh⟩ := ins_obr r
            obtain ⟨u, h1, h2⟩ := get_rp hl hr k1
            cases h2
            refine ⟨_, hx, p, C', dx, _, .int a, rfl, hp, T, hn, h1, ?_⟩
            refine h base O0 O σ H env _ S k2 _ fun v H1 x1 rv => ?_
            cases rv
            obtain ⟨p', dx', vs', hx', hp', hl', O', ev, S2⟩ := (S.mono x1).putFld (f := f) (d := .int (a + b)) (v := .int (a + b)) hi (.int _)
            rw [hx] at hx'
            cases hx'
            refine ⟨a, b, rfl, rfl, dx', _, hp', ?_, P O' σ _ ((vis_mono x1).trans ev) S2⟩
            rw [List.length_zip, List.length_map, hl']
            omega
          · cases e
      · cases e
  · cases e
end
end PL
/-! A def's first thing a hidden object, which it changes; it tells data. -/
namespace PL
open PySem L2 PySem.Spec PyProof.Rows
/-! ### never reached -/
def tBad : TS := fun _ _ _ => False
def sBad : PL.Env → Option Out := fun _ => none
theorem zBad {K : PySem.W.Frag} {X : Cx} {st : Stmt} : ES K X st tBad sBad := ⟨⟨fun _ _ _ _ _ _ h => h.elim⟩, fun _ _ _ _ _ _ _ _ _ e => by cases e⟩
/-! ### objects told apart by where they lie -/
def pinO (p : Addr) : ObS → ObS
  | .ins C fs _ => .ins C fs (some p)
  | .st C CV S => .stp p C CV S
  | .nd P w k _ => .nd P w k (some p)
  | s => s
def pinB (p : Addr) : ObS → Bool
  | .ins _ _ h => decide (h = some p)
  | .stp q _ _ _ => decide (q = p)
  | .nd _ _ _ h => decide (h = some p)
  | _ => false
def canPin : ObS → Bool
  | .ins .. => true
  | .st .. => true
  | .nd .. => true
  | _ => false
def backO : ObS → ObS → ObS
  | .ins _ _ h, .ins C fs _ => .ins C fs h
  | .st _ _ _, .stp _ C CV S => .st C CV S
  | .nd _ _ _ h, .nd P w k _ => .nd P w k h
  | _, s => s
section
variable {K : PySem.W.Frag} {v : V} {fp fp' : List Addr} {H H' B B' : Hp} {s s' : ObS} {p : Addr}
theorem pin_at (r : ObR K v fp H B s) (h : pinB p s = true) : v = .ref p := by
  obtain ⟨_, _, r⟩ := r
  cases s with
  | ins C fs here =>
    obtain ⟨q, dx, vs, rfl, _, _, _, _, _, hh⟩ := r
    rw [hh p (of_decide_eq_true h)]
  | stp q C CV S =>
    obtain ⟨q', dx, a1, a2, a3, a4, a5, cas, vas, rfl, _, _, e⟩ := r
    rw [e, of_decide_eq_true (h : decide (q = p) = true)]
  | nd P w k h0 =>
    obtain ⟨q, es, rfl, _, _, _, hh⟩ := r
    rw [hh p (of_decide_eq_true h)]
  | _ => cases h
theorem obr_pin (r : ObR K v fp H B s) (h : canPin s = true) : ∃ p, v = .ref p ∧ ObR K v fp H B (pinO p s) ∧ pinB p (pinO p s) = true := by
  obtain ⟨r1, r2, r⟩ := r
  cases s with
  | ins C fs here =>
    obtain ⟨q, dx, vs, rfl, h2, h3, h4, h5, h6, hh⟩ := r
    exact ⟨q, rfl, ⟨r1, r2, q, dx, vs, rfl, h2, h3, h4, h5, h6, fun z e => Option.some.inj e⟩, decide_eq_true rfl⟩
  | st C CV S =>
    obtain ⟨q, dx, a1, a2, a3, a4, a5, cas, vas, rfl, h2, h3⟩ := r
    exact ⟨q, rfl, ⟨r1, r2, q, dx, a1, a2, a3, a4, a5, cas, vas, rfl, h2, h3, rfl⟩, decide_eq_true rfl⟩
  | nd P w k h0 =>
    obtain ⟨q, es, rfl, h2, h3, h4, hh⟩ := r
    exact ⟨q, rfl, ⟨r1, r2, q, es, rfl, h2, h3, h4, fun z e => Option.some.inj e⟩, decide_eq_true rfl⟩
  | _ => cases h
theorem obr_back {s0 : ObS} (r0 : ObR K v fp H B s0) (r : ObR K v fp' H' B' s) : ObR K v fp' H' B' (backO s0 s) := by
  cases s0 with
  | ins C0 fs0 h0 =>
    cases s with
    | ins C fs h =>
      obtain ⟨_, _, q, dx, vs, rfl, _, _, _, _, _, hh⟩ := r0
      obtain ⟨r1, r2, q', dx', vs', e, h2, h3, h4, h5, h6, _⟩ := r
      cases e
      exact ⟨r1, r2, q, dx', vs', rfl, h2, h3, h4, h5, h6, hh⟩
    | _ => exact r
  | st C0 CV0 S0 =>
    cases s with
    | stp q C CV S =>
      obtain ⟨r1, r2, q', dx, a1, a2, a3, a4, a5, cas, vas, e, h2, h3, _⟩ := r
      exact ⟨r1, r2, q', dx, a1, a2, a3, a4, a5, cas, vas, e, h2, h3⟩
    | _ => exact r
  | nd P0 w0 k0 h0 =>
    cases s with
    | nd P w k h =>
      obtain ⟨_, _, q, es, rfl, _, _, _, hh⟩ := r0
      obtain ⟨r1, r2, q', es', e, h2, h3, h4, _⟩ := r
      cases e
      exact ⟨r1, r2, q, es', rfl, h2, h3, h4, hh⟩
    | _ => exact r
  | _ => exact r
theorem obr_seen (r : ObR K v fp H B s) (e : PL.Ex B B') : ObR K v fp H B' s := ⟨r.1, r.2.1, r.2.2.mono e⟩
end
/-! ### such a def -/
def spG (K : PySem.W.Frag) (n : Nat) (g : Addr → ObS → List PyData → Option (ObS × PyData)) : Sp := fun vs H Q _ => ∃ (O : Hid) (ds : List PyData) (p : Addr) (fp : List Addr) (s s' : ObS) (d : PyData), vs.length = n ∧ ds.length = n ∧ (∀ a, O a = true → H a ≠ none) ∧ vs[0]? = some (.ref p) ∧ (∀ a ∈ fp, O a = true) ∧ ObR K (.ref p) fp H (vis O H) s ∧
  (∀ j v d, j ≠ 0 → vs[j]? = some v → ds[j]? = some d → Rp K (vis O H) v d) ∧ g p s ds = some (s', d) ∧ ∀ v H' fp', Kept H H' fp fp' → ObR K (.ref p) fp' H' (vis (swapH O fp fp') H') s' → Rp K (vis (swapH O fp fp') H') v d → Q v H'
def selfAt (p : Addr) (e : PL.Env) : Option ObS := match (e[0]? : Option Sl) with
  | some (.ob s) => if pinB p s then some s else none
  | _ => none
def fnG (n : Nat) (F : PL.Env → Option Out) : Addr → ObS → List PyData → Option (ObS × PyData) := fun p s ds => match F ((fEnv n ds).set 0 (.ob s)) with
  | some (.nx e) => (selfAt p e).map fun s' => (s', .none)
  | some (.rtm d e) => (selfAt p e).map fun s' => (s', d)
  | _ => none
def sRetM (f : PL.Env → Option PyData) : PL.Env → Option Out := fun env => (f env).map fun d => .rtm d env
section
variable {K : PySem.W.Frag} {te : TE} {f : PL.Env → Option PyData}
theorem dens_retm (h : DenP K te f) : DenS K (tRet te) (sRetM f) := by
  intro base O0 O σ H env o D S e P
  unfold sRetM at e
  cases k : f env with
  | none => simp [k] at e
  | some d =>
    simp only [k, Option.map_some] at e
    cases e
    exact h base O0 O σ H env d S k _ fun v H1 x1 r => P v O σ H1 (vis_mono x1) (S.mono x1) r
theorem sat_startG {O : Hid} {H : Hp} {vs : List V} {ds : List PyData} {N : List Str} {p : Addr} {fp : List Addr} {s0 : ObS} (al : ∀ a, O a = true → H a ≠ none) (hl : vs.length = ds.length) (hv : vs[0]? = some (.ref p)) (hf : ∀ a ∈ fp, O a = true) (ob : ObR K (.ref p) fp H (vis O H) s0)
    (r : ∀ j v d, j ≠ 0 → vs[j]? = some v → ds[j]? = some d → Rp K (vis O H) v d) (hn : vs.length ≤ N.length) : Sat K (fun a => if a ∈ fp then none else H a) (fun a => O a && !decide (a ∈ fp)) O (L2.start N vs) H ((fEnv N.length ds).set 0 (.ob s0)) := by
  have hiv : 0 < vs.length := (List.getElem?_eq_some_iff.mp hv).1
  refine ⟨fun j => if j = 0 then fp else [], fun a o h => ?_, fun a h => ?_, fun a h => ?_, fun a h => ?_, al, ?_, fun j x s h1 h2 => ?_, fun j hj => ?_, fun j k a n h1 h2 => ?_⟩
  · try simp only at h
    split at h
    · cases h
    · exact h
  · by_cases m : a ∈ fp
    · exact .inr (by simp [m])
    · exact .inl (by simp [m, h])
  · have : O a = true ∧ a ∉ fp := by simpa using h
    simp only [if_neg this.2]
    exact al a this.1
  · have : O a = true ∧ a ∉ fp := by simpa using h
    exact this.1
  · unfold L2.start fEnv
    rw [List.length_set, List.length_append, List.length_append, List.length_map, List.length_map, List.length_replicate, List.length_replicate, hl]
  · by_cases e : j = 0
    · subst e
      have h2' : s = .ob s0 := by
        rw [List.getElem?_set_self (by
          unfold fEnv
          rw [List.length_append, List.length_map]
          omega)] at h2
        exact (Option.some.inj h2).symm
      subst h2'
      have h1' : x = some (.ref p) := by
        unfold L2.start at h1
        rw [List.getElem?_append_left (by rw [List.length_map]; exact hiv), List.getElem?_map, hv] at h1
        exact (Option.some.inj h1).symm
      subst h1'
      show ∃ v, some (V.ref p) = some v ∧ _
      simp only [if_pos]
      exact ⟨_, rfl, fun a m => ⟨hf a m, if_pos m⟩, ob⟩
    · simp only [if_neg e]
      rw [List.getElem?_set_ne (fun q => e q.symm)] at h2
      unfold L2.start at h1
      unfold fEnv at h2
      by_cases hi : j < vs.length
      · rw [List.getElem?_append_left (by rw [List.length_map]; exact hi), List.getElem?_map] at h1
        rw [List.getElem?_append_left (by rw [List.length_map, ← hl]; exact hi), List.getElem?_map] at h2
        cases q : ds[j]? with
        | none => rw [q] at h2; cases h2
        | some d =>
          rw [q] at h2
          cases h2
          cases q2 : vs[j]? with
          | none => rw [q2] at h1; cases h1
          | some v =>
            rw [q2] at h1
            cases h1
            exact ⟨⟨v, rfl, r j v d e q2 q⟩, rfl⟩
      · rw [List.getElem?_append_right (by rw [List.length_map]; omega), List.getElem?_replicate] at h1
        rw [List.getElem?_append_right (by rw [List.length_map, ← hl]; omega), List.getElem?_replicate] at h2
        split at h1
        · cases h1
          split at h2
          · cases h2
            exact ⟨rfl, rfl⟩
          · cases h2
        · cases h1
  · rw [List.length_set] at hj
    have : 0 < (fEnv N.length ds).length := by
      unfold fEnv
      rw [List.length_append, List.length_map]
      omega
    simp only [if_neg (show ¬ j = 0 by omega)]
  · try simp only at h1 h2
    split at h1
    · split at h2
      · rename_i e1 e2
        exact n (e1.trans e2.symm)
      · cases h2
    · cases h1
theorem self_end {O O2 : Hid} {fp : List Addr} {H H2 : Hp} {σ2 : L2.St} {e : PL.Env} {p : Addr} {s' : ObS} (S3 : Sat K (fun a => if a ∈ fp then none else H a) (fun a => O a && !decide (a ∈ fp)) O2 σ2 H2 e) (h : selfAt p e = some s') :
    ∃ fp', Kept H H2 fp fp' ∧ ObR K (.ref p) fp' H2 (vis (swapH O fp fp') H2) s' ∧ PL.Ex (vis O2 H2) (vis (swapH O fp fp') H2) := by
  unfold selfAt at h
  split at h
  · rename_i s k2
    split at h
    case isFalse => cases h
    rename_i hp
    cases h
    have S3' := S3
    obtain ⟨y, fp', hy, v', e1, oa, r'⟩ := S3.at_ k2
    have e2 := pin_at r' hp
    subst e2
    have kp : Kept H H2 fp fp' := by
      refine ⟨fun b o hb nb => S3'.ex b o (by simp only [if_neg nb]; exact hb), fun b m => ?_⟩
      have := (oa b m).2
      simp only at this
      split at this
      · exact .inl (by assumption)
      · exact .inr this
    have ev : PL.Ex (vis O2 H2) (vis (swapH O fp fp') H2) := fun b o hb => by
      have nb : O2 b = false := by
        cases z : O2 b with
        | false => rfl
        | true =>
          unfold vis at hb
          rw [if_pos z] at hb
          cases hb
      refine vis_at ?_ (vis_le _ _ hb)
      cases z : swapH O fp fp' b with
      | false => rfl
      | true =>
        rcases swapH_or z with z | z
        · rw [S3'.sub b (by simp [z.1, z.2])] at nb
          cases nb
        · rw [(oa b z).1] at nb
          cases nb
    exact ⟨fp', kp, obr_seen r' ev, ev⟩
  · cases h
theorem fn_denG {P : Program} {w : World} {mg : Str → Option Value} {base : Heap} {x qual : Str} {st : Stmt} {f : Addr} {fd : FuncData} {N ps : List Str} {k : Nat} {F : PL.Env → Option Out} (Fu : Fun K x qual st f fd) (S : FnScope N ps (defScope st)) (hn : ps.length ≤ N.length)
    (hb : ∀ (cdv : Value) (A : Around) (outer : List PySem.Env) (s : Shared) (H : Hp) (E : XK), Room k (A.deeper (envOfC qual (defScope st) s.heap.objs.size f cdv)) →
      ∃ t, PSs (cxOf CX0 P w K mg base N qual (defScope st) f cdv A outer s H E).nox (defBody st) t ∧ DenS K t F) : FnOk P w K mg base CX0 (k + 1) f fd ps (spG K ps.length (fnG N.length F)) := by
  refine Fu.ok S (fun vs H Q E h => ?_) (fun cdv A outer s H vs Q E hr h => ?_)
  · obtain ⟨O, ds, p, fp, S, S', d, hl, _⟩ := h
    exact hl
  · obtain ⟨O, ds, p, fp, s0, s', d, hl, hl2, al, hv, hf, ob, r, hfn, q⟩ := h
    obtain ⟨t, pt, dt⟩ := hb cdv A outer s H E hr
    refine ⟨t, pt, ?_⟩
    unfold fnG at hfn
    split at hfn
    · rename_i e k1
      obtain ⟨s2, h2, h3⟩ := Option.map_eq_some_iff.mp hfn
      cases h3
      refine dt _ _ O (L2.start N vs) H _ _ _ (sat_startG al (by rw [hl, hl2]) hv hf ob r (by omega)) k1 fun O2 σ2 H2 x S3 => ?_
      obtain ⟨fp', kp, r', _⟩ := self_end S3 h2
      exact q _ H2 fp' kp r' .non
    · rename_i d2 e k1
      obtain ⟨s2, h2, h3⟩ := Option.map_eq_some_iff.mp hfn
      cases h3
      refine dt _ _ O (L2.start N vs) H _ _ _ (sat_startG al (by rw [hl, hl2]) hv hf ob r (by omega)) k1 fun v O2 σ2 H2 x S3 rv => ?_
      obtain ⟨fp', kp, r', ev⟩ := self_end S3 h2
      exact q v H2 fp' kp r' (rv.mono ev)
    · cases hfn
/-! ### such a def called -/
/-- wherever the object lies, g makes s' of it and tells d -/
def Runs (g : Addr → ObS → List PyData → Option (ObS × PyData)) (s0 : ObS) (ds : List PyData) (q : ObS × PyData) : Prop := ∀ p, ∃ r, g p (pinO p s0) ds = some (r, q.2) ∧ backO s0 r = q.1
open Classical in
noncomputable def runG (g : Addr → ObS → List PyData → Option (ObS × PyData)) (s0 : ObS) (ds : List PyData) : Option (ObS × PyData) := if h : ∃ q, Runs g s0 ds q then some (Classical.choose h) else none
theorem runs_one {g : Addr → ObS → List PyData → Option (ObS × PyData)} {s0 : ObS} {ds : List PyData} {q q' : ObS × PyData} (h : Runs g s0 ds q) (h' : Runs g s0 ds q') : q = q' := by
  obtain ⟨r, e1, e2⟩ := h 0
  obtain ⟨r', e1', e2'⟩ := h' 0
  rw [e1] at e1'
  have := Option.some.inj e1'
  obtain ⟨a, b⟩ := Prod.mk.inj this
  cases q
  cases q'
  simp only at e2 e2' b
  rw [← e2, ← e2', a, b]
theorem runG_eq {g : Addr → ObS → List PyData → Option (ObS × PyData)} {s0 : ObS} {ds : List PyData} {q : ObS × PyData} (h : Runs g s0 ds q) : runG g s0 ds = some q := by
  unfold runG
  rw [dif_pos ⟨q, h⟩, runs_one (Classical.choose_spec (⟨q, h⟩ : ∃ q, Runs g s0 ds q)) h]
theorem runG_ok {g : Addr → ObS → List PyData → Option (ObS × PyData)} {s0 : ObS} {ds : List PyData} {q : ObS × PyData} (h : runG g s0 ds = some q) : Runs g s0 ds q := by
  unfold runG at h
  split at h
  · rename_i hx
    cases h
    exact Classical.choose_spec hx
  · cases h
end
end PL
/-! Methods and defs over a hidden object called; objects made; while. -/
namespace PL
open PySem L2 PySem.Spec PyProof.Rows
/-! ### x = o.m(..) -/
/-- what a call over the object of slot i makes of the frame -/
noncomputable def sMet (C : Addr) (m : Str) (i n : Nat) (fr : PL.Env → Option (List PyData)) (g : Addr → ObS → List PyData → Option (ObS × PyData)) (k : PL.Env → PyData → Option Out) : PL.Env → Option Out := fun env => match (env[i]? : Option Sl) with
  | some (.ob (.ins C' fs here)) => if C' = C ∧ getFd m fs = none then (fr env).bind fun ds => if ds.length + 1 = n then (runG g (.ins C' fs here) (.none :: ds)).bind fun q => k (env.set i (.ob q.1)) q.2 else none else none
  | _ => none
def kSet (j : Nat) : PL.Env → PyData → Option Out := fun env d => some (.nx (env.set j (.sh d)))
def kDrop : PL.Env → PyData → Option Out := fun env _ => some (.nx env)
section
variable {K : PySem.W.Frag} {base : Hp} {O0 O : Hid} {σ : L2.St} {H : Hp} {env : PL.Env} {i j n : Nat} {C : Addr} {tr : TA} {fr : PL.Env → Option (List PyData)} {g : Addr → ObS → List PyData → Option (ObS × PyData)} {E : XK} {m : Str}
theorem look_none {f : Str} : ∀ {fs : List (Str × PyData)} {vs : List V}, getFd f fs = none → ((fs.map (·.1)).zip vs).lookup f = none
  | [], _, _ => rfl
  | q :: fs, [], _ => rfl
  | q :: fs, v :: vs, h => by
    unfold getFd getA at h
    by_cases e : q.1 = f
    · rw [List.find?_cons_of_pos (by simp [e])] at h
      cases h
    · rw [List.find?_cons_of_neg (by simp [e])] at h
      show (match f == q.1 with | true => some v | false => ((fs.map fun (z : Str × PyData) => z.1).zip vs).lookup f) = _
      rw [show (f == q.1) = false from beq_eq_false_iff_ne.mpr (fun (z : f = q.1) => e z.symm)]
      exact look_none (fs := fs) h
/-- the call itself, from the arguments on -/
theorem met_call {s0 : ObS} {ds : List PyData} {vs : List V} {q : ObS × PyData} (S : Sat K base O0 O σ H env) (hi : env[i]? = some (.ob s0)) (hp : canPin s0 = true) (hn : ds.length + 1 = n) (r : RpAll K (vis O H) vs ds) (hq : runG g s0 (.none :: ds) = some q) {p : Addr} (hx : σ[i]? = some (some (.ref p))) (Q : VK)
    (k : ∀ v O' H', PL.Ex (vis O H) (vis O' H') → Rp K (vis O' H') v q.2 → Sat K base O0 O' σ H' (env.set i (.ob q.1)) → Q v H') : spG K n g (.ref p :: (vs ++ [])) H Q E := by
  obtain ⟨v, fp, hx2, oa, rr, mv⟩ := S.swapOb hi
  rw [hx] at hx2
  cases hx2
  obtain ⟨p', e, rp, _⟩ := obr_pin rr hp
  cases e
  obtain ⟨r', e1, e2⟩ := runG_ok hq p
  have hl := r.length
  refine ⟨O, .none :: ds, p, fp, pinO p s0, r', q.2, ?_, ?_, S.all, rfl, fun a m => (oa a m).1, rp, fun j v d ne hv hd => ?_, e1, fun v H' fp' kp ob rv => ?_⟩
  · rw [List.append_nil, List.length_cons, hl]
    exact hn
  · rw [List.length_cons]
    exact hn
  · cases j with
    | zero => exact absurd rfl ne
    | succ j =>
      rw [List.append_nil, List.getElem?_cons_succ] at hv
      rw [List.getElem?_cons_succ] at hd
      obtain ⟨v', hv', rv'⟩ := r.get hd
      rw [hv] at hv'
      cases hv'
      exact rv'
  · have ob' := obr_back rr ob
    rw [e2] at ob'
    obtain ⟨ev, S3⟩ := mv H' fp' q.1 kp ob'
    exact k v _ H' ev rv S3
theorem dens_metS (h : DenAP K tr fr) : DenS K (tAsg (tMeth C m (spG K n g) [] E (tVar i) tr) (gName j)) (sMet C m i n fr g (kSet j)) := by
  intro base O0 O σ H env o D S e P
  unfold sMet at e
  split at e
  · rename_i C' fs here hi
    split at e
    case isFalse => cases e
    rename_i hC
    obtain ⟨rfl, hm⟩ := hC
    cases k1 : fr env with
    | none => simp [k1] at e
    | some ds =>
      simp only [k1, Option.bind_some] at e
      split at e
      case isFalse => cases e
      rename_i hn
      cases k2 : runG g (.ins C' fs here) (.none :: ds) with
      | none => simp [k2] at e
      | some q =>
        simp only [k2, Option.bind_some] at e
        cases e
        obtain ⟨v, fp, hx, _, r0, _⟩ := S.mutOb hi
        obtain ⟨p, dx, vs0, rfl, rfl, nd, hp, hdx, hl, hr, hh⟩ := ins_obr r0
        refine ⟨_, hx, p, dx, _, rfl, hp, look_none (fs := fs) hm, ?_⟩
        refine h base O0 O σ H env ds S k1 _ fun vs H1 x1 r1 => ?_
        refine met_call (S.mono x1) hi rfl hn r1 k2 hx _ fun v O' H' ev rv S3 => ?_
        exact P O' _ H' ((vis_mono x1).trans ev) (S3.set rv)
  · cases e
theorem dens_metE (h : DenAP K tr fr) : DenS K (tDrop (tMeth C m (spG K n g) [] E (tVar i) tr)) (sMet C m i n fr g kDrop) := by
  intro base O0 O σ H env o D S e P
  unfold sMet at e
  split at e
  · rename_i C' fs here hi
    split at e
    case isFalse => cases e
    rename_i hC
    obtain ⟨rfl, hm⟩ := hC
    cases k1 : fr env with
    | none => simp [k1] at e
    | some ds =>
      simp only [k1, Option.bind_some] at e
      split at e
      case isFalse => cases e
      rename_i hn
      cases k2 : runG g (.ins C' fs here) (.none :: ds) with
      | none => simp [k2] at e
      | some q =>
        simp only [k2, Option.bind_some] at e
        cases e
        obtain ⟨v, fp, hx, _, r0, _⟩ := S.mutOb hi
        obtain ⟨p, dx, vs0, rfl, rfl, nd, hp, hdx, hl, hr, hh⟩ := ins_obr r0
        refine ⟨_, hx, p, dx, _, rfl, hp, look_none (fs := fs) hm, ?_⟩
        refine h base O0 O σ H env ds S k1 _ fun vs H1 x1 r1 => ?_
        refine met_call (S.mono x1) hi rfl hn r1 k2 hx _ fun v O' H' ev rv S3 => ?_
        exact P O' σ H' ((vis_mono x1).trans ev) S3
  · cases e
/-! ### x = C(..) -/
noncomputable def sMkI (C : Addr) (i n : Nat) (fr : PL.Env → Option (List PyData)) (g : Addr → ObS → List PyData → Option (ObS × PyData)) : PL.Env → Option Out := fun env => (fr env).bind fun ds => if ds.length + 1 = n ∧ i < env.length then (runG g (.ins C [] none) (.none :: ds)).bind fun q => match q.2 with
  | .none => some (.nx (env.set i (.ob q.1)))
  | _ => none else none
theorem dens_mkI (h : DenAP K tr fr) : DenS K (tAsg (tMake C (spG K n g) [] E tr) (gName i)) (sMkI C i n fr g) := by
  intro base O0 O σ H env o D S e P
  unfold sMkI at e
  cases k1 : fr env with
  | none => simp [k1] at e
  | some ds =>
    simp only [k1, Option.bind_some] at e
    split at e
    case isFalse => cases e
    rename_i hn
    cases k2 : runG g (.ins C [] none) (.none :: ds) with
    | none => simp [k2] at e
    | some q =>
      simp only [k2, Option.bind_some] at e
      split at e
      · rename_i hd
        cases e
        refine h base O0 O σ H env ds S k1 _ fun vs H1 x1 r1 => ?_
        show ∀ x dx, H1 x = none → H1 dx = none → dx ≠ x → _
        intro x dx nx ndx ne
        have S1 := S.mono x1
        have e2 : PL.Ex H1 (upd (upd H1 dx (.own x)) x (.ins C dx [])) := fun b u hb => by
          rw [upd_ne (ne_of_none hb nx), upd_ne (ne_of_none hb ndx)]
          exact hb
        have hxx : (upd (upd H1 dx (.own x)) x (.ins C dx [])) x = some (.ins C dx []) := upd_same
        have hdd : (upd (upd H1 dx (.own x)) x (.ins C dx [])) dx = some (.own x) := by rw [upd_ne ne, upd_same]
        have nd : [x, dx].Nodup := by
          rw [List.nodup_cons]
          exact ⟨fun m => ne (List.mem_singleton.mp m).symm, by simp⟩
        have fr1 : ∀ b ∈ [x, dx], H1 b = none := fun b m => by
          simp only [List.mem_cons, List.not_mem_nil, or_false] at m
          rcases m with m | m
          · rw [m]; exact nx
          · rw [m]; exact ndx
        have ob0 : ∀ B h, (∀ q, h = some q → x = q) → ObR K (.ref x) [x, dx] (upd (upd H1 dx (.own x)) x (.ins C dx [])) B (.ins C [] h) := fun B h hh => obr_ins (vs := []) nd hxx hdd rfl .nil hh
        have ev0 : PL.Ex (vis O H1) (vis (hidL O [x, dx]) (upd (upd H1 dx (.own x)) x (.ins C dx []))) := vis_moved (fp := []) (fun b u hb _ => e2 b u hb) (fun b m => .inr (fr1 b m)) (fun a m => nomatch m)
        have Si := S1.setOb (i := i) e2 fr1 (ob0 _ none (fun q z => by cases z)) hn.2
        have hil : i < σ.length := by rw [S1.len]; exact hn.2
        have hsi : (σ.set i (some (.ref x)))[i]? = some (some (.ref x)) := List.getElem?_set_self hil
        have hei : (env.set i (.ob (.ins C [] none)))[i]? = some (.ob (.ins C [] none)) := List.getElem?_set_self hn.2
        refine met_call (i := i) Si hei rfl hn.1 (r1.mono ev0) k2 hsi _ fun v O' H' ev rv S3 => ?_
        rw [hd] at rv
        cases rv
        refine ⟨rfl, ?_⟩
        rw [List.set_set] at S3
        exact P O' _ H' ((vis_mono x1).trans (ev0.trans ev)) S3
      · cases e
/-! ### while -/
def whGo (t : PL.Env → Option Bool) (F : PL.Env → Option Out) : Nat → PL.Env → Option Out
  | 0, _ => none
  | n + 1, env => (t env).bind fun b => if b then (F env).bind fun
    | .nx e => whGo t F n e
    | .ct e => whGo t F n e
    | .br e => some (.nx e)
    | .rt d => some (.rt d)
    | .rtn ds => some (.rtn ds)
    | .rtm d e => some (.rtm d e)
    | .rto s => some (.rto s)
    | .rts a s c => some (.rts a s c) else some (.nx env)
def sWhile (t : PL.Env → Option Bool) (F : PL.Env → Option Out) : PL.Env → Option Out := whGo t F 100000
theorem dens_while {tt : TT} {t : PL.Env → Option Bool} {ts : TS} {F : PL.Env → Option Out} (ht : DenT K tt t) (hb : DenS K ts F) : DenS K (tWhile tt ts) (sWhile t F) := by
  intro base O0 O σ H env o D S e P
  refine ⟨fun m σ' H' => ∃ O' env', PL.Ex (vis O H) (vis O' H') ∧ Sat K base O0 O' σ' H' env' ∧ whGo t F m env' = some o, ⟨100000, O, env, PL.Ex.refl _, S, e⟩, fun m σ' H' W => ?_⟩
  obtain ⟨O', env', x, S', e'⟩ := W
  cases m with
  | zero => cases e'
  | succ m =>
    unfold whGo at e'
    cases k1 : t env' with
    | none => simp [k1] at e'
    | some b =>
      simp only [k1, Option.bind_some] at e'
      refine ht base O0 O' σ' H' env' b S' k1 _ fun H1 x1 => ?_
      have S1 := S'.mono x1
      have x2 := x.trans (vis_mono x1)
      cases b with
      | false =>
        rw [if_neg Bool.false_ne_true] at e' ⊢
        cases e'
        exact P O' σ' H1 x2 S1
      | true =>
        rw [if_pos rfl] at e' ⊢
        refine ⟨fun σ2 H2 => ∃ O2 env2, PL.Ex (vis O H) (vis O2 H2) ∧ Sat K base O0 O2 σ2 H2 env2 ∧ whGo t F m env2 = some o, fun σ2 H2 h => ⟨m, Nat.lt_succ_self _, h⟩, ?_⟩
        cases k2 : F env' with
        | none => simp [k2] at e'
        | some o2 =>
          simp only [k2, Option.bind_some] at e'
          refine hb base O0 O' σ' H1 env' o2 _ S1 k2 ?_
          have P2 := P.mono x2
          cases o2 with
          | nx e3 => exact fun O2 σ3 H3 z S3 => ⟨O2, e3, x2.trans z, S3, e'⟩
          | ct e3 => exact fun O2 σ3 H3 z S3 => ⟨O2, e3, x2.trans z, S3, e'⟩
          | br e3 => cases e'; exact P2
          | rt d => cases e'; exact P2
          | rtn ds => cases e'; exact P2
          | rtm d e3 => cases e'; exact P2
          | rto s => cases e'; exact P2
          | rts a s c => cases e'; exact P2
end
end PL
namespace PL
open PySem L2 PySem.Spec PyProof.Rows
def sWAug (i : Nat) (f g : PL.Env → Option PyData) : PL.Env → Option Out := fun env => match env[i]? with
  | some (.ob (.ls S)) => (f env).bind fun d => (g env).bind fun z => match d, z with
    | .int n, .int m => if 0 ≤ n ∧ n.toNat < S.worth.length then some (.nx (env.set i (.ob (.ls { S with worth := S.worth.modify n.toNat fun q => (q.1 + m, q.2) })))) else none
    | _, _ => none
  | _ => none
/-- xs[i], by values, i no less than 0 -/
def rGetL (K : PySem.W.Frag) : V → V → Hp → VK → Prop := fun x y H Q => ∃ p xs i v, x = .ref p ∧ y = .int i ∧ 0 ≤ i ∧ SqL K H p xs ∧ atI xs i = some v ∧ Q v H
theorem get_listP {X : Cx} : PGet X (rGetL X.K) := by
  intro pins s σ H x y v u Q I rx ry h
  obtain ⟨p, xs, i, z, rfl, rfl, h0, hq, he, q⟩ := h
  cases rx
  obtain ⟨t, rfl⟩ := ry
  obtain ⟨its, r, pl, hz⟩ := I.list hq
  obtain ⟨j, h1, h2, h3, h4, h5⟩ := atI_get he
  obtain ⟨w, ew, rw'⟩ := r.get h2
  have hl := r.length
  have hn := line63
  have hj : i.toNat = j := by
    rw [seqIndex_of h0 h5] at h1
    exact Option.some.inj h1
  exact wpAny_getItem_list pl.isList h0 (by omega) (by rw [hj]; simpa using ew) ⟨z, H, I, rw', q⟩
section
variable {K : PySem.W.Frag} {i : Nat} {te tk t0 t2 : TE} {f g f0 f2 : PL.Env → Option PyData} {fn : PL.Env → Option (List PyData)}
theorem dens_waug (hk : DenP K tk f) (h : DenP K te g) : DenS K (tAugS (tOp (rIx K) (tDGet (tVar i) (tC (.str "worth"))) tk) (tC (.int 0)) te (rGetL K) (ipI fun i j => i + j) rSetL) (sWAug i f g) := by
  intro base O0 O σ H env o D S e P
  unfold sWAug at e
  split at e
  · rename_i S0 hi
    cases k1 : f env with
    | none => simp [k1] at e
    | some d =>
      cases k2 : g env with
      | none => simp [k1, k2] at e
      | some z =>
        simp only [k1, k2, Option.bind_some] at e
        split at e
        · rename_i n m
          split at e
          case isFalse => cases e
          rename_i hc
          cases e
          obtain ⟨p, a1, a2, a3, a4, a5, was, os, hx, h0, nd0, _, _⟩ := S.ls hi
          refine ⟨_, hx, p, _, rfl, (get_open h0.hp).2.2.1, ?_⟩
          refine hk base O0 O σ H env _ S k1 _ fun u H1 x1 ru => ?_
          cases ru
          obtain ⟨a, ha, hav⟩ := h0.hw.at_ (List.getElem?_eq_getElem hc.2)
          have hn : (n.toNat : Int) = n := by omega
          refine .inl ⟨a3, _, n, .ref a, rfl, rfl, SqL.of (x1 _ _ h0.h3), ?_, ?_⟩
          · rw [← hn]
            refine atI_nat' ?_
            rw [List.getElem?_map, ha]
            rfl
          refine ⟨a, _, 0, _, rfl, rfl, by omega, SqL.of (x1 _ _ hav), rfl, ?_⟩
          refine h base O0 O σ H1 env _ (S.mono x1) k2 _ fun v H2 x2 rv => ?_
          cases rv
          refine ⟨_, _, rfl, rfl, a, _, 0, 0, rfl, rfl, x2 _ _ (x1 _ _ hav), rfl, ?_⟩
          obtain ⟨p', b1, b2, b3, b4, b5, was2, os2, hx2, h2, nd2, _, mv⟩ := ((S.mono x1).mono x2).ls hi
          rw [hx] at hx2
          cases hx2
          obtain ⟨rfl, rfl, rfl, rfl, rfl⟩ := same_ls (x1.trans x2) h0.hp h2.hp
          have hw : was = was2 := by
            have z := (x1.trans x2) _ _ h0.h3
            rw [h2.h3] at z
            simp only [Option.some.injEq, HO.lst.injEq] at z
            have inj : ∀ l m : List Addr, l.map V.ref = m.map V.ref → l = m := fun l => by
              induction l with
              | nil => intro m e; cases m with | nil => rfl | cons _ _ => cases e
              | cons c l ih =>
                intro m e
                cases m with
                | nil => cases e
                | cons d m =>
                  simp only [List.map_cons, List.cons.injEq, V.ref.injEq] at e
                  rw [e.1, ih m e.2]
            exact (inj _ _ z).symm
          subst hw
          obtain ⟨O', ev, S2⟩ := mv _ a1 was os2 { S0 with worth := S0.worth.modify n.toNat fun q => (q.1 + m, q.2) } (Moved.wr (c := a) nd2 (by
            unfold lsFp
            simp only [List.mem_cons]
            exact .inr (.inr (.inr (.inr (.inr (.inr (List.mem_of_getElem? ha)))))))) fun ev => (h2.seen ev).wW (ls_apart nd2) (fun q => (q.1 + m, q.2)) ha (List.getElem?_eq_getElem hc.2)
          exact P O' σ _ ((vis_mono (x1.trans x2)).trans ev) S2
        · cases e
  · cases e
theorem put_open {p a1 a2 a3 a4 a5 c : Addr} {n : Int} : putK [(kS "open", V.ref a1), (kS "held", .ref a2), (kS "worth", .ref a3), (kS "told", .ref a4), (kS "given", .ref a5), (kS "many", .int n)] (kS "open") (.ref c) = [(kS "open", V.ref c), (kS "held", .ref a2), (kS "worth", .ref a3), (kS "told", .ref a4), (kS "given", .ref a5), (kS "many", .int n)] := by
  have ne : ∀ x y : Str, decide (x = y) = false → ¬ kS x = kS y := fun x y h e => of_decide_eq_false h (kS_inj.mp e)
  unfold putK
  rw [if_pos (by simp), List.map_cons, List.map_cons, List.map_cons, List.map_cons, List.map_cons, List.map_cons]
  rw [if_pos rfl, if_neg (ne "held" "open" (by decide +kernel)), if_neg (ne "worth" "open" (by decide +kernel)), if_neg (ne "told" "open" (by decide +kernel)), if_neg (ne "given" "open" (by decide +kernel)), if_neg (ne "many" "open" (by decide +kernel))]
  rfl
theorem dens_opnset (h : DenN K te fn) : DenS K (sDPut (tVar i) (tC (.str "open")) te) (sOpnSet i fn) := by
  intro base O0 O σ H env o D S e P
  unfold sOpnSet at e
  split at e
  · rename_i S0 hi
    cases k1 : fn env with
    | none => simp [k1] at e
    | some ds =>
      simp only [k1, Option.bind_some] at e
      cases k2 : decL asQ ds with
      | none => simp [k2] at e
      | some l =>
        simp only [k2, Option.map_some] at e
        cases e
        have hds : ds = l.map fun q => PyData.tuple [.str q.1, .int q.2] := decL_inv (f := asQ) (fun d a e => asQ_inv e) k2
        subst hds
        obtain ⟨p, a1, a2, a3, a4, a5, was, os, hx, h0, nd0, oa, mv⟩ := S.ls hi
        refine h base O0 O σ H env _ S k1 _ fun c vs H1 hc x1 h1 r => ?_
        refine ⟨_, hx, p, _, rfl, DPut.k (k := kS "open") (x1 _ _ h0.hp) (by rw [sizeLine_eq]; show 6 < _; omega), ?_⟩
        rw [put_open (p := p)]
        have nc : ∀ b ∈ lsFp p a1 a2 a3 a4 a5 was, b ≠ c := fun b m q => h0.live b m (q ▸ hc)
        have A := ls_apart nd0
        have pm : p ∈ lsFp p a1 a2 a3 a4 a5 was := by unfold lsFp; simp
        have M : Moved H (upd H1 p (.dK [(kS "open", V.ref c), (kS "held", .ref a2), (kS "worth", .ref a3), (kS "told", .ref a4), (kS "given", .ref a5), (kS "many", .int S0.many)])) (lsFp p a1 a2 a3 a4 a5 was) (lsFp p c a2 a3 a4 a5 was) := by
          refine ⟨fun b u hb n => ?_, fun b hb => ?_, fun b m => ?_, ?_⟩
          · rw [upd_ne (fun (q : b = p) => n (by rw [q]; exact pm))]
            exact x1 _ _ hb
          · by_cases q : b = p
            · rw [q, upd_same]
              exact fun z => nomatch z
            · rw [upd_ne q]
              cases hq : H b with
              | none => exact absurd hq hb
              | some u => rw [x1 _ _ hq]; exact fun z => nomatch z
          · unfold lsFp at m ⊢
            simp only [List.mem_cons] at m ⊢
            rcases m with m | m | m | m | m | m | m
            · exact .inl (.inl m)
            · exact .inr (by rw [m]; exact hc)
            · exact .inl (.inr (.inr (.inl m)))
            · exact .inl (.inr (.inr (.inr (.inl m))))
            · exact .inl (.inr (.inr (.inr (.inr (.inl m)))))
            · exact .inl (.inr (.inr (.inr (.inr (.inr (.inl m))))))
            · exact .inl (.inr (.inr (.inr (.inr (.inr (.inr m))))))
          · unfold lsFp at nd0 nc ⊢
            simp only [List.nodup_cons, List.mem_cons, not_or] at nd0 ⊢
            obtain ⟨⟨p1, p2, p3, p4, p5, p6⟩, ⟨q1, q2, q3, q4, q5⟩, n3⟩ := nd0
            have nc2 : ∀ b, b ∈ a2 :: a3 :: a4 :: a5 :: was → c ≠ b := fun b m q => nc b (List.mem_cons_of_mem _ (List.mem_cons_of_mem _ m)) q.symm
            refine ⟨⟨nc p (by simp), p2, p3, p4, p5, p6⟩, ⟨nc2 _ (by simp), nc2 _ (by simp), nc2 _ (by simp), nc2 _ (by simp), fun m => nc2 c (by simp [m]) rfl⟩, n3⟩
        obtain ⟨O', ev, S2⟩ := mv _ c was vs { S0 with opn := l } M fun ev => by
          have up : ∀ b u, b ≠ p → H b = some u → (upd H1 p (.dK [(kS "open", V.ref c), (kS "held", .ref a2), (kS "worth", .ref a3), (kS "told", .ref a4), (kS "given", .ref a5), (kS "many", .int S0.many)])) b = some u := fun b u n hb => by
            rw [upd_ne n]
            exact x1 _ _ hb
          obtain ⟨⟨p1, p2, p3, p4, p5⟩, _⟩ := A.h
          refine ⟨upd_same, by rw [upd_ne (nc p pm).symm]; exact h1, ?_, up _ _ p2.symm h0.h2, up _ _ p3.symm h0.h3, ?_, up _ _ p4.symm h0.h4, up _ _ p5.symm h0.h5, h0.ha⟩
          · refine r.mono fun b u hb => ?_
            have hb1 := vis_le _ _ hb
            have nb : hid O c b = false := by
              cases z : hid O c b with
              | false => rfl
              | true =>
                unfold vis at hb
                rw [if_pos z] at hb
                cases hb
            unfold hid at nb
            rw [Bool.or_eq_false_iff] at nb
            have bc := of_decide_eq_false nb.2
            have nf : b ∉ lsFp p a1 a2 a3 a4 a5 was := fun m => by
              rw [(oa b m).1] at nb
              cases nb.1
            refine vis_at ?_ (by rw [upd_ne (fun (q : b = p) => nf (by rw [q]; exact pm))]; exact hb1)
            unfold hidL
            rw [nb.1, Bool.false_or]
            refine decide_eq_false fun m => ?_
            unfold lsFp at m nf
            simp only [List.mem_cons, not_or] at m nf
            obtain ⟨f1, f2, f3, f4, f5, f6, f7⟩ := nf
            rcases m with m | m | m | m | m | m | m
            · exact f1 m
            · exact bc m
            · exact f3 m
            · exact f4 m
            · exact f5 m
            · exact f6 m
            · exact f7 m
          · exact h0.hw.sub fun a m o ho => up _ _ (A.w a m).1 ho
        exact P O' σ _ ev S2
  · cases e
end
end PL
/-! The law's own state: made, handed on, and all rules. -/
namespace PL
open PySem L2 PySem.Spec PyProof.Rows
def ls0 : LS := ⟨[], [], [], [], [], 0, none⟩
/-- a def of three arguments that changes its second -/
def sDeed (j : Nat) (f0 f2 : PL.Env → Option PyData) (dm : LS → List PyData → Option LS) : PL.Env → Option Out := fun env => match env[j]? with
  | some (.ob (.ls S)) => (f0 env).bind fun d0 => (f2 env).bind fun d2 => (dm S [d0, .none, d2]).map fun S' => .nx (env.set j (.ob (.ls S')))
  | _ => none
/-- g does what dm tells, wherever the state lies -/
def Deeds (g dm : LS → List PyData → Option LS) : Prop := ∀ S ds S', dm S ds = some S' → S'.here = S.here ∧ ∀ p, g { S with here := some p } ds = some { S' with here := some p }
/-- a new one -/
def spF (K : PySem.W.Frag) : Sp := fun vs H Q _ => vs = [] ∧ ∀ p a1 a2 a3 a4 a5 H', Ex H H' → (∀ a ∈ lsFp p a1 a2 a3 a4 a5 [], H a = none) → (lsFp p a1 a2 a3 a4 a5 []).Nodup → (∀ B, LsAt K H' B p a1 a2 a3 a4 a5 [] [] ls0) → Q (.ref p) H'
def sFresh (i : Nat) : PL.Env → Option Out := fun env => if i < env.length then some (.nx (env.set i (.ob (.ls ls0)))) else none
section
variable {K : PySem.W.Frag}
theorem LsAt.at_ {H B : Hp} {p a1 a2 a3 a4 a5 : Addr} {was : List Addr} {os : List V} {S : LS} (h : LsAt K H B p a1 a2 a3 a4 a5 was os S) (o : Option Addr) (ho : ∀ q, o = some q → p = q) : LsAt K H B p a1 a2 a3 a4 a5 was os { S with here := o } := ⟨h.hp, h.h1, h.hos, h.h2, h.h3, h.hw, h.h4, h.h5, ho⟩
variable {i j : Nat} {te t0 t2 : TE} {f0 f2 : PL.Env → Option PyData} {g dm : LS → List PyData → Option LS} {E : XK}
theorem dens_deed (hg : Deeds g dm) (h0 : DenP K t0 f0) (h2 : DenP K t2 f2) : DenS K (tDrop (tCall (spM K 3 1 g) [] E (tCons t0 (tCons (tVar j) (tCons t2 tNil))))) (sDeed j f0 f2 dm) := by
  intro base O0 O σ H env o D S e P
  unfold sDeed at e
  split at e
  · rename_i S0 hi
    cases k1 : f0 env with
    | none => simp [k1] at e
    | some d0 =>
      cases k2 : f2 env with
      | none => simp [k1, k2] at e
      | some d2 =>
        simp only [k1, k2, Option.bind_some] at e
        cases k3 : dm S0 [d0, .none, d2] with
        | none => simp [k3] at e
        | some S' =>
          simp only [k3, Option.map_some] at e
          cases e
          obtain ⟨hh, hp⟩ := hg _ _ _ k3
          refine h0 base O0 O σ H env _ S k1 _ fun v0 H1 x1 r0 => ?_
          obtain ⟨p, _, _, _, _, _, _, _, hx, _⟩ := (S.mono x1).ls hi
          refine ⟨_, hx, ?_⟩
          refine h2 base O0 O σ H1 env _ (S.mono x1) k2 _ fun v2 H2 x2 r2 => ?_
          have S2 := (S.mono x1).mono x2
          obtain ⟨v, fp, hx2, oa, r, mv⟩ := S2.swapOb hi
          rw [hx] at hx2
          cases hx2
          obtain ⟨p', a1, a2, a3, a4, a5, was, os, e1, rfl, h, nd⟩ := ls_obr r
          cases e1
          refine ⟨O, [d0, .none, d2], p, _, { S0 with here := some p }, { S' with here := some p }, rfl, rfl, S2.all, rfl, fun a m => (oa a m).1, obr_ls (h.at_ _ (fun q z => Option.some.inj z)) nd, rfl, fun k v d ne hv hd => ?_, hp p, fun H' fp' kp ob => ?_⟩
          · match k, ne, hv, hd with
            | 0, _, hv, hd =>
              cases hv
              cases hd
              exact r0.mono (vis_mono x2)
            | 1, ne, _, _ => exact absurd rfl ne
            | 2, _, hv, hd =>
              cases hv
              cases hd
              exact r2
            | k + 3, _, hv, _ => simp at hv
          · obtain ⟨p2, b1, b2, b3, b4, b5, was2, os2, e2, rfl, h', nd'⟩ := ls_obr ob
            cases e2
            obtain ⟨ev, S3⟩ := mv H' _ (.ls S') kp (obr_ls (h'.at_ S'.here (fun q z => h.ha q (by rw [← hh]; exact z))) nd')
            exact P _ σ H' ((vis_mono (x1.trans x2)).trans ev) S3
  · cases e
theorem dens_fresh : DenS K (tAsg (tCall (spF K) [] E tNil) (gName i)) (sFresh i) := by
  intro base O0 O σ H env o D S e P
  unfold sFresh at e
  split at e
  case isFalse => cases e
  rename_i hi
  cases e
  refine ⟨rfl, fun p a1 a2 a3 a4 a5 H' x fr nd h => ?_⟩
  have S2 := S.setOb (i := i) x fr (obr_ls (h _) nd) hi
  exact P _ _ H' (vis_moved (fp := []) (fun b u hb _ => x b u hb) (fun b m => .inr (fr b m)) (fun a m => nomatch m)) S2
end
/-! ### rules -/
abbrev subS (x : Str) (px : Pos) (k : Str) (j : Nat) (p3 p4 : Pos) : Expr := .Subscript (.Name x px) (.Constant (.str k) j p3) p4
section
variable {K : PySem.W.Frag} {X : Cx} {x : Str} {px p3 p4 pos q qq ap : Pos} {c : Nat} {e e2 : Expr} {te t2 : TE} {f f2 : PL.Env → Option PyData} {fn : PL.Env → Option (List PyData)}
theorem oLs (i : Nat) (h : PE X (.Name x pos) (tVar i)) : EO K X (.Name x pos) (tVar i) (eLs i) := ⟨h, den_ls⟩
variable (hu : X.A.units + 1 < cLine) (i : Nat) (hx : PE X (.Name x px) (tVar i))
include hu hx
theorem oOpn : EO K X (subS x px "open" c p3 p4) (tDGet (tVar i) (tC (.str "open"))) (eOpn i) := ⟨pe_dget hu hx pe_str (fun _ _ => rfl), den_opn⟩
theorem oToldL : EO K X (subS x px "told" c p3 p4) (tDGet (tVar i) (tC (.str "told"))) (eToldL i) := ⟨pe_dget hu hx pe_str (fun _ _ => rfl), den_toldl⟩
theorem oGivenL : EO K X (subS x px "given" c p3 p4) (tDGet (tVar i) (tC (.str "given"))) (eGivenL i) := ⟨pe_dget hu hx pe_str (fun _ _ => rfl), den_givenl⟩
theorem pMany : EP K X (subS x px "many" c p3 p4) (tDGet (tVar i) (tC (.str "many"))) (eMany i) := ⟨pe_dget hu hx pe_str (fun _ _ => rfl), den_many⟩
theorem zMany (h : EP K X e te f) (hs : swapsWith e (some (subS x px "many" c p3 p4)) pos.line X.env = pure false := by rfl) : ES K X (.Assign [subS x px "many" c p3 p4] e pos) (sDPut (tVar i) (tC (.str "many")) te) (sMany i f) := ⟨ps_dput hu hx pe_str h.pe hs, dens_many h.de⟩
theorem zOpnSet (h : EN K X e te fn) (hs : swapsWith e (some (subS x px "open" c p3 p4)) pos.line X.env = pure false := by rfl) : ES K X (.Assign [subS x px "open" c p3 p4] e pos) (sDPut (tVar i) (tC (.str "open")) te) (sOpnSet i fn) := ⟨ps_dput hu hx pe_str h.pe hs, dens_opnset h.de⟩
theorem zHold {p5 : Pos} (hk : EP K X e2 t2 f2) (h : EP K X e te f) (hs : swapsWith e (some (.Subscript (subS x px "held" c p3 p4) e2 p5)) pos.line X.env = pure false := by rfl) : ES K X (.Assign [.Subscript (subS x px "held" c p3 p4) e2 p5] e pos) (sDPut (tDGet (tVar i) (tC (.str "held"))) t2 te) (sHold i f2 f) :=
  ⟨ps_dput hu (pe_dget hu hx pe_str (fun _ _ => rfl)) hk.pe h.pe hs, dens_hold hk.de h.de⟩
theorem zWAug {p5 p6 p7 : Pos} {c2 : Nat} (hk : EP K X e2 t2 f2) (h : EP K X e te f) (hp : PlainIx e2 := by exact fun _ _ => rfl) (hK : X.K = K := by rfl) : ES K X (.AugAssign (.Subscript (.Subscript (subS x px "worth" c p3 p4) e2 p5) (.Constant (.int 0) c2 p6) p7) .Add e pos) (tAugS (tOp (rIx K) (tDGet (tVar i) (tC (.str "worth"))) t2) (tC (.int 0)) te (rGetL K) (ipI fun i j => i + j) rSetL) (sWAug i f2 f) := by
  subst hK
  exact ⟨ps_augS (pe_ix ix_seq (pe_dget hu hx pe_str (fun _ _ => rfl)) hk.pe hp) pe_int get_listP h.pe ip_add set_list, dens_waug hk.de h.de⟩
section
variable (hb : attributeBase (subS x px "open" c p3 p4) "append" X.env (eval (subS x px "open" c p3 p4) X.env) = eval (subS x px "open" c p3 p4) X.env)
theorem zOpnApp (h : EP K X e te f) (hb : attributeBase (subS x px "open" c p3 p4) "append" X.env (eval (subS x px "open" c p3 p4) X.env) = eval (subS x px "open" c p3 p4) X.env := by rfl)
    (hfew : (((backTo q (starEach [e] X.env)).all (!·.1) && (backToKw q (keywordEach [] X.env)).all (·.1.isSome)) && decide (([e].length + ([] : List Keyword).length + if ([] : List Keyword).isEmpty = true then 0 else 1) < 30)) = true := by rfl) (hl : (ap.endLine == q.line) = true := by rfl)
    (he : starEach (e :: []) X.env = (false, eval e X.env) :: starEach [] X.env := by rfl) (hpl : (backTo q (starEach [] X.env)).any (·.1) = false := by rfl) (hs : swapsWith (.Call (.Attribute (subS x px "open" c p3 p4) "append" ap) [e] [] q) none qq.line X.env = pure false := by rfl) (hK : X.K = K := by rfl) :
    ES K X (.Expr (.Call (.Attribute (subS x px "open" c p3 p4) "append" ap) [e] [] q) qq) (tDrop (tBM K "list" rAppend (tDGet (tVar i) (tC (.str "open"))) (tCons te tNil))) (sOpnApp i f) := by
  subst hK
  exact ⟨ps_expr (pe_bm PySem.F.plainAttrs_list PySem.F.slot_list_append PySem.F.type_list_append mt_append (pe_dget hu hx pe_str (fun _ _ => rfl)) (pa_cons h.pe pa_nil he) hb hfew hl he hpl) hs, dens_opnapp h.de⟩
theorem zTold (h : EP K X e te f) (hb : attributeBase (subS x px "told" c p3 p4) "append" X.env (eval (subS x px "told" c p3 p4) X.env) = eval (subS x px "told" c p3 p4) X.env := by rfl)
    (hfew : (((backTo q (starEach [e] X.env)).all (!·.1) && (backToKw q (keywordEach [] X.env)).all (·.1.isSome)) && decide (([e].length + ([] : List Keyword).length + if ([] : List Keyword).isEmpty = true then 0 else 1) < 30)) = true := by rfl) (hl : (ap.endLine == q.line) = true := by rfl)
    (he : starEach (e :: []) X.env = (false, eval e X.env) :: starEach [] X.env := by rfl) (hpl : (backTo q (starEach [] X.env)).any (·.1) = false := by rfl) (hs : swapsWith (.Call (.Attribute (subS x px "told" c p3 p4) "append" ap) [e] [] q) none qq.line X.env = pure false := by rfl) (hK : X.K = K := by rfl) :
    ES K X (.Expr (.Call (.Attribute (subS x px "told" c p3 p4) "append" ap) [e] [] q) qq) (tDrop (tBM K "list" rAppend (tDGet (tVar i) (tC (.str "told"))) (tCons te tNil))) (sTold i f) := by
  subst hK
  exact ⟨ps_expr (pe_bm PySem.F.plainAttrs_list PySem.F.slot_list_append PySem.F.type_list_append mt_append (pe_dget hu hx pe_str (fun _ _ => rfl)) (pa_cons h.pe pa_nil he) hb hfew hl he hpl) hs, dens_told h.de⟩
theorem zWorth (h : EN K X e te fn) (hb : attributeBase (subS x px "worth" c p3 p4) "append" X.env (eval (subS x px "worth" c p3 p4) X.env) = eval (subS x px "worth" c p3 p4) X.env := by rfl)
    (hfew : (((backTo q (starEach [e] X.env)).all (!·.1) && (backToKw q (keywordEach [] X.env)).all (·.1.isSome)) && decide (([e].length + ([] : List Keyword).length + if ([] : List Keyword).isEmpty = true then 0 else 1) < 30)) = true := by rfl) (hl : (ap.endLine == q.line) = true := by rfl)
    (he : starEach (e :: []) X.env = (false, eval e X.env) :: starEach [] X.env := by rfl) (hpl : (backTo q (starEach [] X.env)).any (·.1) = false := by rfl) (hs : swapsWith (.Call (.Attribute (subS x px "worth" c p3 p4) "append" ap) [e] [] q) none qq.line X.env = pure false := by rfl) (hK : X.K = K := by rfl) :
    ES K X (.Expr (.Call (.Attribute (subS x px "worth" c p3 p4) "append" ap) [e] [] q) qq) (tDrop (tBM K "list" rAppend (tDGet (tVar i) (tC (.str "worth"))) (tCons te tNil))) (sWorth i fn) := by
  subst hK
  exact ⟨ps_expr (pe_bm PySem.F.plainAttrs_list PySem.F.slot_list_append PySem.F.type_list_append mt_append (pe_dget hu hx pe_str (fun _ _ => rfl)) (pa_cons h.pe pa_nil he) hb hfew hl he hpl) hs, dens_worth h.de⟩
theorem zGivn (h : EN K X e te fn) (hb : attributeBase (subS x px "given" c p3 p4) "extend" X.env (eval (subS x px "given" c p3 p4) X.env) = eval (subS x px "given" c p3 p4) X.env := by rfl)
    (hfew : (((backTo q (starEach [e] X.env)).all (!·.1) && (backToKw q (keywordEach [] X.env)).all (·.1.isSome)) && decide (([e].length + ([] : List Keyword).length + if ([] : List Keyword).isEmpty = true then 0 else 1) < 30)) = true := by rfl) (hl : (ap.endLine == q.line) = true := by rfl)
    (he : starEach (e :: []) X.env = (false, eval e X.env) :: starEach [] X.env := by rfl) (hpl : (backTo q (starEach [] X.env)).any (·.1) = false := by rfl) (hs : swapsWith (.Call (.Attribute (subS x px "given" c p3 p4) "extend" ap) [e] [] q) none qq.line X.env = pure false := by rfl) (hK : X.K = K := by rfl) :
    ES K X (.Expr (.Call (.Attribute (subS x px "given" c p3 p4) "extend" ap) [e] [] q) qq) (tDrop (tBM K "list" rExtend (tDGet (tVar i) (tC (.str "given"))) (tCons te tNil))) (sGivn i fn) := by
  subst hK
  exact ⟨ps_expr (pe_bm PySem.F.plainAttrs_list PySem.F.slot_list_extend PySem.F.type_list_extend mt_extend (pe_dget hu hx pe_str (fun _ _ => rfl)) (pa_cons h.pe pa_nil he) hb hfew hl he hpl) hs, dens_givn h.de⟩
end
end
section
variable {K : PySem.W.Frag} {X : Cx} {x n : Str} {p pos spos px : Pos} {e1 e3 : Expr} {y : Str} {py : Pos} {t1 t3 : TE} {f1 f3 : PL.Env → Option PyData} {k m : Nat} {ps : List Str} {g dm : LS → List PyData → Option LS}
def CalM (P : Program) (w : World) (K : PySem.W.Frag) (mg : Str → Option Value) (base : Heap) (k : Nat) (x : Str) (n i : Nat) (ps : List Str) (g : LS → List PyData → Option LS) : Prop :=
  ∃ (f : Addr) (fd : FuncData), FnOk P w K mg base CX0 k f fd ps (spM K n i g) ∧ mg x = some (.ref f) ∧ PySem.W.keepIn K (.ref f) = true ∧ Binds K fd ps []
def CalF (P : Program) (w : World) (K : PySem.W.Frag) (mg : Str → Option Value) (base : Heap) (k : Nat) (x : Str) : Prop :=
  ∃ (f : Addr) (fd : FuncData), FnOk P w K mg base CX0 k f fd [] (spF K) ∧ mg x = some (.ref f) ∧ PySem.W.keepIn K (.ref f) = true ∧ Binds K fd [] []
theorem zDeed (j : Nat) (C : CalM X.prog X.w K X.mg X.base k n 3 1 ps g) (hg : Deeds g dm) (hr : Room m X.A) (hk : k ≤ m) (h1 : EP K X e1 t1 f1) (hy : PE X (.Name y py) (tVar j)) (h3 : EP K X e3 t3 f3) (hgl : Gl X n := by rfl) (hdb : (n == ("__debug__" : Str)) = false := by decide)
    (s1 : starEach [e1, .Name y py, e3] X.env = (false, eval e1 X.env) :: starEach [.Name y py, e3] X.env := by rfl) (s2 : starEach [.Name y py, e3] X.env = (false, eval (.Name y py) X.env) :: starEach [e3] X.env := by rfl) (s3 : starEach [e3] X.env = (false, eval e3 X.env) :: starEach [] X.env := by rfl)
    (hpl : (backTo pos (starEach [.Name y py, e3] X.env)).any (·.1) = false := by rfl) (hs : swapsWith (.Call (.Name n p) [e1, .Name y py, e3] [] pos) none spos.line X.env = pure false := by rfl) (hK : X.K = K := by rfl) :
    ES K X (.Expr (.Call (.Name n p) [e1, .Name y py, e3] [] pos) spos) (tDrop (tCall (spM K 3 1 g) [] E0 (tCons t1 (tCons (tVar j) (tCons t3 tNil))))) (sDeed j f1 f3 dm) := by
  subst hK
  obtain ⟨f, fd, F, hm, kp, hb⟩ := C
  exact ⟨ps_expr (pe_call F (hr.mono hk) hgl hm kp hb .nil pass0 (pa_cons h1.pe (pa_cons hy (pa_cons h3.pe pa_nil s3) s2) s1) hdb s1 hpl) hs, dens_deed hg h1.de h3.de⟩
end
end PL
namespace PL
open PySem L2 PySem.Spec PyProof.Rows
def eHeldAt (i : Nat) (f : PL.Env → Option PyData) : PL.Env → Option PyData := fun env => match env[i]? with
  | some (.ob (.ls S)) => (f env).bind fun d => match d with
    | .str x => (getA S.held x).map fun n => .int (n : Int)
    | _ => none
  | _ => none
def eWorthAt (i : Nat) (f : PL.Env → Option PyData) (k : Nat) : PL.Env → Option PyData := fun env => match env[i]? with
  | some (.ob (.ls S)) => (f env).bind fun d => match d with
    | .int n => if 0 ≤ n then (S.worth[n.toNat]?).map fun z => .int (if k = 0 then z.1 else z.2) else none
    | _ => none
  | _ => none
def eLenWorth (i : Nat) : PL.Env → Option PyData := fun env => match env[i]? with
  | some (.ob (.ls S)) => some (.int (S.worth.length : Int))
  | _ => none
section
variable {K : PySem.W.Frag} {i : Nat} {te tk : TE} {f g : PL.Env → Option PyData}
theorem den_heldat (h : DenP K tk f) : DenP K (tDGet (tDGet (tVar i) (tC (.str "held"))) tk) (eHeldAt i f) := by
  intro base O0 O σ H env d S e Q q
  unfold eHeldAt at e
  split at e
  · rename_i S0 hi
    cases k1 : f env with
    | none => simp [k1] at e
    | some z =>
      simp only [k1, Option.bind_some] at e
      split at e
      · rename_i x
        cases k2 : getA S0.held x with
        | none => simp [k2] at e
        | some n =>
          simp only [k2, Option.map_some] at e
          cases e
          obtain ⟨p, a1, a2, a3, a4, a5, was, os, hx, h0, nd0, _, _⟩ := S.ls hi
          refine ⟨_, hx, p, _, rfl, (get_open h0.hp).2.1, ?_⟩
          refine h base O0 O σ H env _ S k1 _ fun u H1 x1 ru => ?_
          cases ru
          have hg : valV (S0.held.map fun q => (kS q.1, V.int (q.2 : Int))) (kS x) = some (.int (n : Int)) := by
            have := valV_kvs (f := fun m : Nat => V.int (m : Int)) S0.held x
            unfold kvs at this
            rw [this, k2]
            rfl
          have hd := DGet.k (k := kS x) (x1 _ _ h0.h2)
          rw [hg] at hd
          exact ⟨a2, _, rfl, hd, q _ H1 x1 (.int _)⟩
      · cases e
  · cases e
theorem den_worthat {k : Nat} (hk : k < 2) (h : DenP K tk f) : DenP K (tOp (rIx K) (tOp (rIx K) (tDGet (tVar i) (tC (.str "worth"))) tk) (tC (.int (k : Int)))) (eWorthAt i f k) := by
  intro base O0 O σ H env d S e Q q
  unfold eWorthAt at e
  split at e
  · rename_i S0 hi
    cases k1 : f env with
    | none => simp [k1] at e
    | some z =>
      simp only [k1, Option.bind_some] at e
      split at e
      · rename_i n
        split at e
        case isFalse => cases e
        rename_i hn
        cases k2 : S0.worth[n.toNat]? with
        | none => simp [k2] at e
        | some z =>
          simp only [k2, Option.map_some] at e
          cases e
          obtain ⟨p, a1, a2, a3, a4, a5, was, os, hx, h0, nd0, _, _⟩ := S.ls hi
          refine ⟨_, hx, p, _, rfl, (get_open h0.hp).2.2.1, ?_⟩
          refine h base O0 O σ H env _ S k1 _ fun u H1 x1 ru => ?_
          cases ru
          obtain ⟨a, ha, hav⟩ := h0.hw.at_ k2
          have hz : (n.toNat : Int) = n := by omega
          refine .inl ⟨a3, _, n, .ref a, rfl, rfl, SqL.of (x1 _ _ h0.h3), ?_, ?_⟩
          · rw [← hz]
            refine atI_nat' ?_
            rw [List.getElem?_map, ha]
            rfl
          refine .inl ⟨a, _, (k : Int), .int (if k = 0 then z.1 else z.2), rfl, rfl, SqL.of (x1 _ _ hav), ?_, q _ H1 x1 (.int _)⟩
          match k, hk with
          | 0, _ => rfl
          | 1, _ => rfl
      · cases e
  · cases e
theorem den_lenworth : DenP K (tCB (fun xs H Q => ∃ x n, xs = [x] ∧ LenV K x H n ∧ Q (.int n) H) (tCons (tDGet (tVar i) (tC (.str "worth"))) tNil)) (eLenWorth i) := by
  intro base O0 O σ H env d S e Q q
  unfold eLenWorth at e
  split at e
  · rename_i S0 hi
    cases e
    obtain ⟨p, a1, a2, a3, a4, a5, was, os, hx, h0, nd0, _, _⟩ := S.ls hi
    refine ⟨_, hx, p, _, rfl, (get_open h0.hp).2.2.1, .ref a3, S0.worth.length, rfl, .inl ⟨_, SqL.of h0.h3, ?_⟩, q _ H (PL.Ex.refl H) (.int _)⟩
    rw [List.length_map, h0.hw.len]
  · cases e
end
section
variable {K : PySem.W.Frag} {X : Cx} {x n : Str} {px p3 p4 p5 p6 p pos spos : Pos} {c c2 : Nat} {e2 : Expr} {t2 : TE} {f2 : PL.Env → Option PyData} {k m : Nat}
theorem pHeld (hu : X.A.units + 1 < cLine) (i : Nat) (hx : PE X (.Name x px) (tVar i)) (h : EP K X e2 t2 f2) (hs : NoSl e2 := by exact fun _ _ => rfl) : EP K X (.Subscript (subS x px "held" c p3 p4) e2 p5) (tDGet (tDGet (tVar i) (tC (.str "held"))) t2) (eHeldAt i f2) :=
  ⟨pe_dget hu (pe_dget hu hx pe_str (fun _ _ => rfl)) h.pe hs, den_heldat h.de⟩
theorem pWorth (hu : X.A.units + 1 < cLine) (i k : Nat) (hx : PE X (.Name x px) (tVar i)) (h : EP K X e2 t2 f2) (hk : k < 2 := by decide) (hs : PlainIx e2 := by exact fun _ _ => rfl) (hK : X.K = K := by rfl) : EP K X (.Subscript (.Subscript (subS x px "worth" c p3 p4) e2 p5) (.Constant (.int (k : Int)) c2 p6) pos) (tOp (rIx K) (tOp (rIx K) (tDGet (tVar i) (tC (.str "worth"))) t2) (tC (.int (k : Int)))) (eWorthAt i f2 k) := by
  subst hK
  exact ⟨pe_ix ix_seq (pe_ix ix_seq (pe_dget hu hx pe_str (fun _ _ => rfl)) h.pe hs) pe_int (fun _ _ => rfl), den_worthat hk h.de⟩
theorem pLenW (hu : X.A.units + 1 < cLine) (hm : X.mg "len" = none) (i : Nat) (hx : PE X (.Name x px) (tVar i)) (hg : Gl X "len" := by rfl) (he : starEach [subS x px "worth" c p3 p4] X.env = (false, eval (subS x px "worth" c p3 p4) X.env) :: starEach [] X.env := by rfl) (hpl : (backTo pos (starEach [] X.env)).any (·.1) = false := by rfl) (hK : X.K = K := by rfl) :
    EP K X (.Call (.Name "len" p) [subS x px "worth" c p3 p4] [] pos) (tCB (fun xs H Q => ∃ x n, xs = [x] ∧ LenV K x H n ∧ Q (.int n) H) (tCons (tDGet (tVar i) (tC (.str "worth"))) tNil)) (eLenWorth i) := by
  subst hK
  exact ⟨pe_callB call_len hg hm PySem.boot_len (pa_cons (pe_dget hu hx pe_str (fun _ _ => rfl)) pa_nil he) (by decide) (by decide) he hpl, den_lenworth⟩
theorem upd_none {H : Hp} {p a : Addr} {o : HO} (h : upd H p o a = none) : a ≠ p ∧ H a = none := by
  by_cases e : a = p
  · rw [e, upd_same] at h
    cases h
  · rw [upd_ne e] at h
    exact ⟨e, h⟩
theorem zFresh (i : Nat) (nd : X.N.Nodup) (C : CalF X.prog X.w K X.mg X.base k n) (hr : Room m X.A) (hk : k ≤ m) (hg : Gl X n := by rfl) (hdb : (n == ("__debug__" : Str)) = false := by decide)
    (hN : X.N[i]? = some x := by rfl) (hl : Loc X.env.scope x := by first | exact Or.inl rfl | exact Or.inr rfl) (hf : X.fn x = true ∨ X.env.scope.names.lookup x = some .local := by first | exact Or.inr rfl | exact Or.inl rfl)
    (hs : swapsWithSole [.Name x px] (.Call (.Name n p) [] [] pos) spos.line X.env = pure false := by rfl) (h2 : swappedStores [.Name x px] (.Call (.Name n p) [] [] pos) X.env = pure none := by rfl) (h4 : (assignEach [.Name x px] X.env).map (·.2) = [assign (.Name x px) X.env] := by rfl) (hK : X.K = K := by rfl) :
    ES K X (.Assign [.Name x px] (.Call (.Name n p) [] [] pos) spos) (tAsg (tCall (spF K) [] E0 tNil) (gName i)) (sFresh i) := by
  subst hK
  obtain ⟨f, fd, F, hm, kp, hb⟩ := C
  exact ⟨ps_asg (pe_call0 F (hr.mono hk) hg hm kp hb .nil pass0 hdb) (pg_name nd hN hl hf) hs h2 h4, dens_fresh⟩
/-- the def that makes a new one -/
theorem ok_fresh {P : Program} {w : World} {mg : Str → Option Value} {base : Heap} {qual : Str} {st : Stmt} {f : Addr} {fd : FuncData} {q1 q2 q3 q4 q5 q6 r1 r2 r3 r4 r5 r6 u1 u2 : Pos} {c1 c2 c3 c4 c5 c6 c7 : Nat} (Fu : Fun K x qual st f fd) (S : FnScope [] [] (defScope st))
    (hb : defBody st = [.Return (some (.Dict [some (.Constant (.str "open") c1 q1), some (.Constant (.str "held") c2 q2), some (.Constant (.str "worth") c3 q3), some (.Constant (.str "told") c4 q4), some (.Constant (.str "given") c5 q5), some (.Constant (.str "many") c6 q6)]
      [.List [] r1, .Dict [] [] r2, .List [] r3, .List [] r4, .List [] r5, .Constant (.int 0) c7 r6] u1)) u2]) : FnOk P w K mg base CX0 1 f fd [] (spF K) := by
  refine Fu.ok S (fun vs H Q E h => by rw [h.1]; rfl) (fun cdv A outer s H vs Q E hr h => ?_)
  obtain ⟨rfl, q⟩ := h
  rw [hb]
  refine ⟨_, pss_one (ps_ret (pe_disp (pps_cons pe_str (pe_lst pa_nil) (pps_cons pe_str pe_dnewK (pps_cons pe_str (pe_lst pa_nil) (pps_cons pe_str (pe_lst pa_nil) (pps_cons pe_str (pe_lst pa_nil) (pps_cons pe_str pe_int pps_nil)))))) rfl rfl (fun z => nomatch z) (by show 6 ≤ 15; omega))), ?_⟩
  intro p hp
  refine ⟨by show 0 ≤ _; omega, fun a1 n1 a2 n2 => ?_⟩
  refine ⟨by show 0 ≤ _; omega, fun a3 n3 => ⟨by show 0 ≤ _; omega, fun a4 n4 => ⟨by show 0 ≤ _; omega, fun a5 n5 => ?_⟩⟩⟩
  obtain ⟨m1, z1⟩ := upd_none n1
  obtain ⟨m21, n2⟩ := upd_none n2
  obtain ⟨m2, z2⟩ := upd_none n2
  obtain ⟨m32, n3⟩ := upd_none n3
  obtain ⟨m31, n3⟩ := upd_none n3
  obtain ⟨m3, z3⟩ := upd_none n3
  obtain ⟨m43, n4⟩ := upd_none n4
  obtain ⟨m42, n4⟩ := upd_none n4
  obtain ⟨m41, n4⟩ := upd_none n4
  obtain ⟨m4, z4⟩ := upd_none n4
  obtain ⟨m54, n5⟩ := upd_none n5
  obtain ⟨m53, n5⟩ := upd_none n5
  obtain ⟨m52, n5⟩ := upd_none n5
  obtain ⟨m51, n5⟩ := upd_none n5
  obtain ⟨m5, z5⟩ := upd_none n5
  refine ⟨?_, [(kS "open", .ref a1), (kS "held", .ref a2), (kS "worth", .ref a3), (kS "told", .ref a4), (kS "given", .ref a5), (kS "many", .int 0)], rfl, by show 6 ≤ 15; omega, ?_⟩
  · rw [upd_ne m5.symm, upd_ne m4.symm, upd_ne m3.symm, upd_ne m2.symm, upd_ne m1.symm, upd_same]
  · have hm : mergeK [] [(kS "open", V.ref a1), (kS "held", .ref a2), (kS "worth", .ref a3), (kS "told", .ref a4), (kS "given", .ref a5), (kS "many", .int 0)] = [(kS "open", V.ref a1), (kS "held", .ref a2), (kS "worth", .ref a3), (kS "told", .ref a4), (kS "given", .ref a5), (kS "many", .int 0)] := by
      unfold mergeK
      rw [merge_new _ [] (by show ([kS "open", kS "held", kS "worth", kS "told", kS "given", kS "many"] : List Key).Nodup; decide +kernel)]
      rfl
    rw [hm]
    refine q p a1 a2 a3 a4 a5 _ (fun b o hb => ?_) (fun b m => ?_) ?_ (fun B => ⟨upd_same, ?_, .nil, ?_, ?_, .nil, ?_, ?_, fun q z => nomatch z⟩)
    · have ne : ∀ c, H c = none → b ≠ c := fun c hc => ne_of_none hb hc
      rw [upd_ne (ne p hp), upd_ne (ne a5 z5), upd_ne (ne a4 z4), upd_ne (ne a3 z3), upd_ne (ne a2 z2), upd_ne (ne a1 z1), upd_ne (ne p hp)]
      exact hb
    · unfold lsFp at m
      simp only [List.mem_cons, List.not_mem_nil, or_false] at m
      rcases m with rfl | rfl | rfl | rfl | rfl | rfl <;> assumption
    · unfold lsFp
      simp only [List.nodup_cons, List.mem_cons, List.not_mem_nil, or_false, not_or, not_false_eq_true, List.nodup_nil, and_true]
      exact ⟨⟨m1.symm, m2.symm, m3.symm, m4.symm, m5.symm⟩, ⟨m21.symm, m31.symm, m41.symm, m51.symm⟩, ⟨m32.symm, m42.symm, m52.symm⟩, ⟨m43.symm, m53.symm⟩, m54.symm⟩
    · rw [upd_ne m1, upd_ne m51.symm, upd_ne m41.symm, upd_ne m31.symm, upd_ne m21.symm, upd_same]
    · rw [upd_ne m2, upd_ne m52.symm, upd_ne m42.symm, upd_ne m32.symm, upd_same]
      rfl
    · rw [upd_ne m3, upd_ne m53.symm, upd_ne m43.symm, upd_same]
      rfl
    · rw [upd_ne m4, upd_ne m54.symm, upd_same]
      rfl
    · rw [upd_ne m5, upd_same]
      rfl
end
end PL
/-! The law's own state, read as data. -/
namespace PL
open PySem L2 PySem.Spec PyProof.Rows
theorem lookP_pos {k x : Str} {d : PyData} {r : List (PyData × PyData)} (e : k = x) : lookP ((.str k, d) :: r) x = some d := if_pos e
theorem lookP_neg {k x : Str} {d : PyData} {r : List (PyData × PyData)} (e : ¬ k = x) : lookP ((.str k, d) :: r) x = lookP r x := if_neg e
theorem ls_open (L : LS) : lookP (kvP lsKs (lsPs L)) "open" = some (.list (L.opn.map encQ)) := lookP_pos rfl
theorem ls_held (L : LS) : lookP (kvP lsKs (lsPs L)) "held" = some (heldD L.held) := (lookP_neg (k := "open") (x := "held") (by decide +kernel)).trans (lookP_pos rfl)
theorem ls_worth (L : LS) : lookP (kvP lsKs (lsPs L)) "worth" = some (.list (L.worth.map encN)) := (lookP_neg (k := "open") (x := "worth") (by decide +kernel)).trans ((lookP_neg (k := "held") (x := "worth") (by decide +kernel)).trans (lookP_pos rfl))
theorem held_look (x : Str) : ∀ l : List (Str × Nat), lookP (kvP (l.map (·.1)) (l.map fun q => .int (q.2 : Int))) x = (getA l x).map fun n => .int (n : Int)
  | [] => rfl
  | q :: l => by
    have ih := held_look x l
    show lookP ((.str q.1, .int (q.2 : Int)) :: kvP (l.map (·.1)) (l.map fun q => .int (q.2 : Int))) x = _
    unfold getA at ih ⊢
    by_cases e : q.1 = x
    · rw [lookP_pos e, List.find?_cons_of_pos (by simp [e])]
      rfl
    · rw [lookP_neg e, ih, List.find?_cons_of_neg (by simp [e])]
theorem held_ks : ∀ l : List (Str × Nat), (kvP (l.map (·.1)) (l.map fun q => .int (q.2 : Int))).all isKS = true
  | [] => rfl
  | q :: l => by
    show (isKS (.str q.1, .int (q.2 : Int)) && (kvP (l.map (·.1)) (l.map fun q => .int (q.2 : Int))).all isKS) = true
    rw [held_ks l]
    rfl
section
variable {a b : PL.Env → Option PyData} {env : PL.Env} {L : LS}
theorem te2_ev {g : PyData → PyData → Option PyData} {x y : PyData} {t : Bool} (ha : a env = some x) (hb : b env = some y) (h : g x y = some (.bool t)) : tE (e2 g a b) env = some t := by
  unfold tE e2
  rw [ha, hb, Option.bind_some, Option.bind_some, h]
  rfl
theorem dg_open (h : a env = some (lsD L)) : e2 gDg a (eC (.str "open")) env = some (.list (L.opn.map encQ)) := by
  unfold e2
  rw [h]
  exact ls_open L
theorem dg_held (h : a env = some (lsD L)) : e2 gDg a (eC (.str "held")) env = some (heldD L.held) := by
  unfold e2
  rw [h]
  exact ls_held L
theorem dg_worth (h : a env = some (lsD L)) : e2 gDg a (eC (.str "worth")) env = some (.list (L.worth.map encN)) := by
  unfold e2
  rw [h]
  exact ls_worth L
theorem in_held {neg : Bool} {x : Str} (ha : a env = some (.str x)) (hb : b env = some (heldD L.held)) : tE (e2 (gDin neg) a b) env = some (if neg then !(getA L.held x).isSome else (getA L.held x).isSome) := by
  unfold tE e2
  rw [ha, hb]
  show (if (kvP (L.held.map (·.1)) (L.held.map fun q => .int (q.2 : Int))).all isKS then some (PyData.bool (if neg then !(lookP (kvP (L.held.map (·.1)) (L.held.map fun q => .int (q.2 : Int))) x).isSome else (lookP (kvP (L.held.map (·.1)) (L.held.map fun q => .int (q.2 : Int))) x).isSome)) else none).bind asB = _
  rw [if_pos (held_ks _), held_look]
  cases getA L.held x <;> rfl
theorem at_held {x : Str} {n : Nat} (ha : a env = some (heldD L.held)) (hb : b env = some (.str x)) (h : getA L.held x = some n) : e2 gDg a b env = some (.int (n : Int)) := by
  unfold e2
  rw [ha, hb]
  show lookP (kvP (L.held.map (·.1)) (L.held.map fun q => .int (q.2 : Int))) x = _
  rw [held_look, h]
  rfl
end
end PL
namespace PL
open PySem L2 PySem.Spec PyProof.Rows
section
variable {i : Nat} {env : PL.Env} {L : LS} {f g : PL.Env → Option PyData} {fn : PL.Env → Option (List PyData)}
theorem opnapp_nx {x : Str} {n : Int} (h1 : env[i]? = some (.ob (.ls L))) (h2 : f env = some (.tuple [.str x, .int n])) (h3 : L.opn.length < 100000) : sOpnApp i f env = some (.nx (env.set i (.ob (.ls { L with opn := L.opn ++ [(x, n)] })))) := by
  unfold sOpnApp
  rw [h1]
  show (f env).bind _ = _
  rw [h2]
  exact if_pos h3
theorem many_nx {n : Int} (h1 : env[i]? = some (.ob (.ls L))) (h2 : f env = some (.int n)) : sMany i f env = some (.nx (env.set i (.ob (.ls { L with many := n })))) := by
  unfold sMany
  rw [h1]
  show (f env).bind _ = _
  rw [h2]
  rfl
theorem told_nx {n : Int} (h1 : env[i]? = some (.ob (.ls L))) (h2 : f env = some (.int n)) (h3 : L.told.length < 100000) : sTold i f env = some (.nx (env.set i (.ob (.ls { L with told := L.told ++ [n] })))) := by
  unfold sTold
  rw [h1]
  show (f env).bind _ = _
  rw [h2]
  exact if_pos h3
theorem hold_nx {x : Str} {n : Nat} (h1 : env[i]? = some (.ob (.ls L))) (h2 : f env = some (.str x)) (h3 : g env = some (.int (n : Int))) (h4 : L.held.length < 100000) : sHold i f g env = some (.nx (env.set i (.ob (.ls { L with held := putA L.held x n })))) := by
  unfold sHold
  rw [h1]
  show (g env).bind _ = _
  rw [h3, Option.bind_some, h2, Option.bind_some]
  show (if 0 ≤ (n : Int) ∧ L.held.length < 100000 then some (Out.nx (env.set i (.ob (.ls { L with held := putA L.held x (n : Int).toNat })))) else none) = _
  rw [if_pos ⟨by omega, h4⟩, Int.toNat_natCast]
theorem worth_nx {w h : Int} (h1 : env[i]? = some (.ob (.ls L))) (h2 : fn env = some [.int w, .int h]) (h3 : L.worth.length < 100000) : sWorth i fn env = some (.nx (env.set i (.ob (.ls { L with worth := L.worth ++ [(w, h)] })))) := by
  unfold sWorth
  rw [h1]
  show (fn env).bind _ = _
  rw [h2]
  exact if_pos h3
theorem waug_nx {n : Nat} {m : Int} (h1 : env[i]? = some (.ob (.ls L))) (h2 : f env = some (.int (n : Int))) (h3 : g env = some (.int m)) (h4 : n < L.worth.length) : sWAug i f g env = some (.nx (env.set i (.ob (.ls { L with worth := L.worth.modify n fun q => (q.1 + m, q.2) })))) := by
  unfold sWAug
  rw [h1]
  show (f env).bind _ = _
  rw [h2, Option.bind_some, h3, Option.bind_some]
  show (if 0 ≤ (n : Int) ∧ (n : Int).toNat < L.worth.length then some (Out.nx (env.set i (.ob (.ls { L with worth := L.worth.modify (n : Int).toNat fun q => (q.1 + m, q.2) })))) else none) = _
  rw [Int.toNat_natCast, if_pos ⟨by omega, h4⟩]
theorem givn_nx {ns : List Int} (h1 : env[i]? = some (.ob (.ls L))) (h2 : fn env = some (ns.map PyData.int)) (h3 : L.given.length + ns.length ≤ 100000) : sGivn i fn env = some (.nx (env.set i (.ob (.ls { L with given := L.given ++ ns })))) := by
  unfold sGivn
  rw [h1]
  show (fn env).bind _ = _
  rw [h2, Option.bind_some, show asInts (ns.map PyData.int) = some ns from decL_map (f := asI) (g := PyData.int) (fun _ => rfl) ns]
  exact if_pos h3
theorem opnset_nx {l : List (Str × Int)} (h1 : env[i]? = some (.ob (.ls L))) (h2 : fn env = some (l.map encQ)) : sOpnSet i fn env = some (.nx (env.set i (.ob (.ls { L with opn := l })))) := by
  unfold sOpnSet
  rw [h1]
  show (fn env).bind _ = _
  rw [h2, Option.bind_some, show decL asQ (l.map encQ) = some l from decL_map (f := asQ) (g := encQ) (fun _ => rfl) l]
  rfl
theorem heldat_ev {x : Str} {n : Nat} (h1 : env[i]? = some (.ob (.ls L))) (h2 : f env = some (.str x)) (h3 : getA L.held x = some n) : eHeldAt i f env = some (.int (n : Int)) := by
  unfold eHeldAt
  rw [h1]
  show (f env).bind _ = _
  rw [h2, Option.bind_some]
  show (Option.map (fun n : Int => PyData.int n) (do let a ← getA L.held x; pure (a : Int))) = _
  rw [h3]
  rfl
theorem worthat_ev {n : Nat} {z : Int × Int} (h1 : env[i]? = some (.ob (.ls L))) (h2 : f env = some (.int (n : Int))) (h3 : L.worth[n]? = some z) : eWorthAt i f 0 env = some (.int z.1) := by
  unfold eWorthAt
  rw [h1]
  show (f env).bind _ = _
  rw [h2, Option.bind_some]
  show (if 0 ≤ (n : Int) then (L.worth[(n : Int).toNat]?).map fun z => PyData.int (if 0 = 0 then z.1 else z.2) else none) = _
  rw [if_pos (by omega), Int.toNat_natCast, h3]
  rfl
end
end PL
/-! Forms for hidden objects of data fields; one def's call within another's; a def that hands back a hidden object. -/
namespace PL
open PySem L2 PySem.Spec PyProof.Rows
/-! ### forms -/
section
variable {K : PySem.W.Frag} {X : Cx} {e : Expr} {te : TE} {f : PL.Env → Option PyData} {p pos spos px : Pos} {x y : Str} {py : Pos} {C : Addr} {F : PL.Env → Option Out}
theorem zAsgO (j : Nat) (nd : X.N.Nodup) (h : PE X e te) (hd : DenS K (tAsg te (gName j)) F)
    (hN : X.N[j]? = some x := by rfl) (hl : Loc X.env.scope x := by first | exact Or.inl rfl | exact Or.inr rfl) (hf : X.fn x = true ∨ X.env.scope.names.lookup x = some .local := by first | exact Or.inr rfl | exact Or.inl rfl)
    (hs : swapsWithSole [.Name x px] e spos.line X.env = pure false := by rfl) (h2 : swappedStores [.Name x px] e X.env = pure none := by rfl) (h4 : (assignEach [.Name x px] X.env).map (·.2) = [assign (.Name x px) X.env] := by rfl) :
    ES K X (.Assign [.Name x px] e spos) (tAsg te (gName j)) F := ⟨ps_asg h (pg_name nd hN hl hf) hs h2 h4, hd⟩
theorem zDropO (h : PE X e te) (hd : DenS K (tDrop te) F) (hs : swapsWith e none spos.line X.env = pure false := by rfl) : ES K X (.Expr e spos) (tDrop te) F := ⟨ps_expr h hs, hd⟩
theorem zDropP (h : EP K X e te f) (hs : swapsWith e none spos.line X.env = pure false := by rfl) : ES K X (.Expr e spos) (tDrop te) (fun env => (f env).map fun _ => .nx env) := ⟨ps_expr h.pe hs, dens_drop h.de⟩
theorem zRetX (h : PE X e te) (hd : DenS K (tRet te) F) : ES K X (.Return (some e) pos) (tRet te) F := ⟨ps_ret h, hd⟩
theorem zRetM (h : EP K X e te f) : ES K X (.Return (some e) pos) (tRet te) (sRetM f) := ⟨ps_ret h.pe, dens_retm h.de⟩
theorem pFld {a : Str} (i : Nat) (T : Cls K C) (hn : NoAttr K C a) (hv : PE X (.Name y py) (tVar i)) (hb : attributeBase (.Name y py) a X.env (eval (.Name y py) X.env) = eval (.Name y py) X.env := by rfl) (hK : X.K = K := by rfl) : EP K X (.Attribute (.Name y py) a pos) (tFld K (tVar i) a) (eFld C i a) := by
  subst hK
  exact ⟨pe_fld hv hb, den_fldI T hn⟩
theorem zFSet {a : Str} (i : Nat) (T : Cls K C) (hn : NoAttr K C a) (hv : PE X (.Name y py) (tVar i)) (h : EP K X e te f) (hs : swapsWith e (some (.Attribute (.Name y py) a pos)) spos.line X.env = pure false := by rfl) (hK : X.K = K := by rfl) : ES K X (.Assign [.Attribute (.Name y py) a pos] e spos) (sFld K (tVar i) te a) (sFSet C i a f) := by
  subst hK
  exact ⟨ps_fld hv h.pe hs, dens_fset T hn h.de⟩
theorem zFAug {a : Str} (i : Nat) (T : Cls K C) (hn : NoAttr K C a) (hv : PE X (.Name y py) (tVar i)) (h : EP K X e te f) (hK : X.K = K := by rfl) : ES K X (.AugAssign (.Attribute (.Name y py) a pos) .Add e spos) (sFldAug K (tVar i) te rAdd a) (sFAug C i a f) := by
  subst hK
  exact ⟨ps_fldaug hv h.pe in_add, dens_faug T hn h.de⟩
theorem zWhile {c : Expr} {body : List Stmt} {tc : TT} {t : PL.Env → Option Bool} {ts : TS} (hp : PassesOwn (model X.prog X.w) X.A X.env X.xe) (hc : ET K X c tc t) (hb : EK K X body ts F) : ES K X (.While c body [] pos) (tWhile tc ts) (sWhile t F) := ⟨ps_while hp hc.pe hb.pe, dens_while hc.de hb.de⟩
theorem pConst {v : V} {d : PyData} {u : Value} (hg : Gl X x) (hm : X.mg x = some u) (r : RelV v u) (rd : ∀ H, Rp K H v d) (hd : (x == ("__debug__" : Str)) = false := by decide) : EP K X (.Name x pos) (tC v) (eC d) := ⟨pe_glob hg hm r hd, by
  intro base O0 O σ H env d' S e Q q
  cases e
  exact q v H (Ex.refl H) (rd _)⟩
end
/-- a method over a hidden object -/
def MetG (P : Program) (w : World) (K : PySem.W.Frag) (mg : Str → Option Value) (base : Heap) (k : Nat) (C : Addr) (m : Str) (n : Nat) (ps : List Str) (g : Addr → ObS → List PyData → Option (ObS × PyData)) : Prop :=
  ∃ (f : Addr) (fd : FuncData), Meth K C m f ∧ FnOk P w K mg base CX0 k f fd ps (spG K n g) ∧ Binds K fd ps []
/-- a def over a hidden object -/
def CalG (P : Program) (w : World) (K : PySem.W.Frag) (mg : Str → Option Value) (base : Heap) (k : Nat) (x : Str) (n : Nat) (ps : List Str) (g : Addr → ObS → List PyData → Option (ObS × PyData)) : Prop :=
  ∃ (f : Addr) (fd : FuncData), FnOk P w K mg base CX0 k f fd ps (spG K n g) ∧ mg x = some (.ref f) ∧ PySem.W.keepIn K (.ref f) = true ∧ Binds K fd ps []
/-- a class made by its def over a hidden object -/
def MkG (P : Program) (w : World) (K : PySem.W.Frag) (mg : Str → Option Value) (base : Heap) (k : Nat) (x : Str) (C : Addr) (n : Nat) (ps : List Str) (g : Addr → ObS → List PyData → Option (ObS × PyData)) : Prop :=
  ∃ (f : Addr) (fd : FuncData), Mk K C f ∧ FnOk P w K mg base CX0 k f fd ps (spG K n g) ∧ Binds K fd ps [] ∧ mg x = some (.ref C)
/-! ### x = f(o1, o2.m()) -/
noncomputable def sTwo (C : Addr) (m : Str) (i k : Nat) (gE g : Addr → ObS → List PyData → Option (ObS × PyData)) (j : Nat) : PL.Env → Option Out := fun env => match (env[k]? : Option Sl) with
  | some (.ob (.ins C' fs here)) => if C' = C ∧ getFd m fs = none then (runG g (.ins C' fs here) [.none]).bind fun q => match ((env.set k (.ob q.1))[i]? : Option Sl) with
    | some (.ob s0) => if canPin s0 = true then (runG gE s0 [.none, q.2]).bind fun r => some (.nx (((env.set k (.ob q.1)).set i (.ob r.1)).set j (.sh r.2))) else none
    | _ => none else none
  | _ => none
section
variable {K : PySem.W.Frag} {base : Hp} {O0 O : Hid} {σ : L2.St} {H : Hp} {env : PL.Env} {i j k n : Nat} {C : Addr} {gE g : Addr → ObS → List PyData → Option (ObS × PyData)} {E E' : XK} {m : Str}
theorem dens_two : DenS K (tAsg (tCall (spG K 2 gE) [] E' (tCons (tVar i) (tCons (tMeth C m (spG K 1 g) [] E (tVar k) tNil) tNil))) (gName j)) (sTwo C m i k gE g j) := by
  intro base O0 O σ H env o D S e P
  unfold sTwo at e
  split at e
  · rename_i C' fs here hk
    split at e
    case isFalse => cases e
    rename_i hC
    obtain ⟨rfl, hm⟩ := hC
    cases k1 : runG g (.ins C' fs here) [.none] with
    | none => simp [k1] at e
    | some q =>
      simp only [k1, Option.bind_some] at e
      split at e
      · rename_i s0 hi
        split at e
        case isFalse => cases e
        rename_i hp
        cases k2 : runG gE s0 [.none, q.2] with
        | none => simp [k2] at e
        | some r =>
          simp only [k2, Option.bind_some] at e
          cases e
          have hxi : ∃ pi, σ[i]? = some (some (.ref pi)) := by
            have hlen : i < env.length := by
              have := (List.getElem?_eq_some_iff.mp hi).1
              rwa [List.length_set] at this
            by_cases hik : i = k
            · subst hik
              obtain ⟨v, fp, hx, _, r0, _⟩ := S.mutOb hk
              obtain ⟨p, _, _, rfl, _⟩ := ins_obr r0
              exact ⟨p, hx⟩
            · rw [List.getElem?_set_ne (fun z => hik z.symm)] at hi
              obtain ⟨v, fp, hx, _, r0, _⟩ := S.mutOb hi
              obtain ⟨p, rfl, _⟩ := obr_pin r0 hp
              exact ⟨p, hx⟩
          obtain ⟨pi, hxi⟩ := hxi
          obtain ⟨v, fp, hx, _, r0, _⟩ := S.mutOb hk
          obtain ⟨p, dx, vs0, rfl, rfl, nd, hpp, hdx, hl, hr, hh⟩ := ins_obr r0
          refine ⟨_, hxi, ⟨_, hx, p, dx, _, rfl, hpp, look_none (fs := fs) hm, ?_⟩⟩
          refine met_call (E := E) (vs := []) S hk rfl rfl .nil k1 hx _ fun v O' H' ev rv S3 => ?_
          refine met_call (E := E') (vs := [v]) (ds := [q.2]) S3 hi hp rfl (.cons rv .nil) k2 hxi _ fun v2 O2 H2 ev2 rv2 S4 => ?_
          exact P O2 _ H2 (ev.trans ev2) (S4.set rv2)
      · cases e
  · cases e
end
/-! ### a def that hands back a hidden object -/
def spO (K : PySem.W.Frag) (n : Nat) (g : List PyData → Option ObS) : Sp := fun vs H Q _ => ∃ (O : Hid) (ds : List PyData) (s : ObS), vs.length = n ∧ (∀ a, O a = true → H a ≠ none) ∧ RpAll K (vis O H) vs ds ∧ g ds = some s ∧
  ∀ v fp H', (∀ a ∈ fp, H a = none) → Ex H H' → ObR K v fp H' (vis (hidB O fp) H') s → Q v H'
def fnO (n : Nat) (F : PL.Env → Option Out) : List PyData → Option ObS := fun ds => match F (fEnv n ds) with
  | some (.rto s) => some s
  | _ => none
def sCallO (i n : Nat) (fr : PL.Env → Option (List PyData)) (g : List PyData → Option ObS) : PL.Env → Option Out := fun env => (fr env).bind fun ds => if ds.length = n ∧ i < env.length then (g ds).map fun s => .nx (env.set i (.ob s)) else none
section
variable {K : PySem.W.Frag} {i n : Nat} {tr : TA} {fr : PL.Env → Option (List PyData)} {g : List PyData → Option ObS} {E : XK}
theorem fn_denO {P : Program} {w : World} {mg : Str → Option Value} {base : Heap} {x qual : Str} {st : Stmt} {f : Addr} {fd : FuncData} {N ps : List Str} {k : Nat} {F : PL.Env → Option Out} (Fu : Fun K x qual st f fd) (S : FnScope N ps (defScope st)) (hn : ps.length ≤ N.length)
    (hb : ∀ (cdv : Value) (A : Around) (outer : List PySem.Env) (s : Shared) (H : Hp) (E : XK), Room k (A.deeper (envOfC qual (defScope st) s.heap.objs.size f cdv)) →
      ∃ t, PSs (cxOf CX0 P w K mg base N qual (defScope st) f cdv A outer s H E).nox (defBody st) t ∧ DenS K t F) : FnOk P w K mg base CX0 (k + 1) f fd ps (spO K ps.length (fnO N.length F)) := by
  refine Fu.ok S (fun vs H Q E h => ?_) (fun cdv A outer s H vs Q E hr h => ?_)
  · obtain ⟨O, ds, s, hl, _⟩ := h
    exact hl
  · obtain ⟨O, ds, s', hl, al, r, hf, q⟩ := h
    obtain ⟨t, pt, dt⟩ := hb cdv A outer s H E hr
    refine ⟨t, pt, ?_⟩
    unfold fnO at hf
    split at hf
    · rename_i s2 k1
      cases hf
      exact dt H O O (L2.start N vs) H (fEnv N.length ds) _ _ (sat_start al r (by omega)) k1 fun v fp H2 b x y ob => q v fp H2 b x ob
    · cases hf
theorem dens_callO (h : DenAP K tr fr) : DenS K (tAsg (tCall (spO K n g) [] E tr) (gName i)) (sCallO i n fr g) := by
  intro base O0 O σ H env o D S e P
  unfold sCallO at e
  cases k1 : fr env with
  | none => simp [k1] at e
  | some ds =>
    simp only [k1, Option.bind_some] at e
    split at e
    case isFalse => cases e
    rename_i hn
    cases k2 : g ds with
    | none => simp [k2] at e
    | some s =>
      simp only [k2, Option.map_some] at e
      cases e
      refine h base O0 O σ H env ds S k1 _ fun vs H1 x1 r1 => ?_
      show spO K n g (vs ++ []) H1 _ E
      rw [List.append_nil]
      have S1 := S.mono x1
      refine ⟨O, ds, s, by rw [r1.length]; exact hn.1, S1.all, r1, k2, fun v fp H2 fr2 x2 ob => ?_⟩
      have S2 := S1.setOb (i := i) x2 fr2 ob hn.2
      exact P _ _ H2 ((vis_mono x1).trans (vis_moved (fp := []) (fun b u hb _ => x2 b u hb) (fun b m => .inr (fr2 b m)) (fun a m => nomatch m))) S2
end
end PL
/-! Is a text no key of a table of the top (it is one); numbers and texts of the top. -/
namespace PL
open PySem L2 PySem.Spec PyProof.Rows
def rNotT (p : Addr) (tb : List (Str × List Str)) : R2 := fun x y H Q => ∃ (z : Str) (ks : List Str), x = .str z ∧ y = .ref p ∧ lookT tb z = some ks ∧ Q (.bl false) H
def eNotTab (tb : List (Str × List Str)) (f : PL.Env → Option PyData) : PL.Env → Option PyData := fun env => (f env).bind fun
  | .str z => (lookT tb z).map fun _ => .bool false
  | _ => none
section
variable {X : Cx} {p : Addr} {tb : List (Str × List Str)}
theorem op_nt (T : TabOk X.K X.w p tb) (low : (p == sysModules) = false) : OpR X (compareOp .NotIn) (rNotT p tb) := by
  intro pins s σ H x y v u Q I rx ry h
  obtain ⟨z, ks, rfl, rfl, hk, q⟩ := h
  unfold lookT at hk
  obtain ⟨r, hr, rfl⟩ := Option.map_eq_some_iff.mp hk
  have hm := List.mem_of_find?_eq_some hr
  have hz : r.1 = z := by
    have h := List.find?_some hr
    exact of_decide_eq_true h
  obtain ⟨t, ⟨es, n, u0, hl, hkl, e, ru⟩, ht⟩ := T.at_ r hm
  rw [hz] at e
  exact op_notIn_kd ⟨hl, hkl, low⟩ pins s σ H _ _ v u Q I rx ry ⟨z, some u0, rfl, rfl, e, q⟩
end
section
variable {K : PySem.W.Frag} {X : Cx} {e : Expr} {te : TE} {f : PL.Env → Option PyData} {x : Str} {px pos : Pos} {tb : List (Str × List Str)} {p : Addr}
theorem den_nt (h : Den K te f) : DenP K (tOp (rNotT p tb) te (tC (.ref p))) (eNotTab tb f) := by
  intro base O0 O σ H env d S e Q q
  unfold eNotTab at e
  cases k1 : f env with
  | none => simp [k1] at e
  | some w =>
    simp only [k1, Option.bind_some] at e
    split at e
    · rename_i z
      obtain ⟨ks, hk, rfl⟩ := Option.map_eq_some_iff.mp e
      refine h base O0 O σ H env _ S k1 _ fun v H1 x1 o1 => ?_
      rw [o1.str]
      exact ⟨z, ks, rfl, rfl, hk, q _ H1 x1 (.bl _)⟩
    · cases e
theorem tNTb (T : TabOk K X.w p tb) (low : (p == sysModules) = false) (hm : X.mg x = some (.ref p)) (h : EO K X e te f) (hg : Gl X x := by rfl) (hb : behindInMarks .NotIn (.Name x px) = false := by rfl) (hdb : (x == ("__debug__" : Str)) = false := by decide) (hK : X.K = K := by rfl) :
    ET K X (.Compare e [.NotIn] [.Name x px] pos) (tTest (tOp (rNotT p tb) te (tC (.ref p)))) (tE (eNotTab tb f)) := by
  subst hK
  exact ⟨pt_cmpR (op_nt T low) h.pe (pe_glob hg hm rfl hdb) hb, den_test (den_nt h.de).o⟩
/-- a whole number of the top -/
def IntAt (mg : Str → Option Value) (x : Str) (i : Int) : Prop := ∃ t, mg x = some (.int i t)
def StrAt (mg : Str → Option Value) (x z : Str) : Prop := ∃ t, mg x = some (.str z t)
theorem gInt_ {i : Int} (h : IntAt X.mg x i) (hg : Gl X x := by rfl) (hd : (x == ("__debug__" : Str)) = false := by decide) : EP K X (.Name x pos) (tC (.int i)) (eC (.int i)) := by
  obtain ⟨t, ht⟩ := h
  exact pConst hg ht ⟨t, rfl⟩ (fun _ => .int i) hd
theorem gStr_ {z : Str} (h : StrAt X.mg x z) (hg : Gl X x := by rfl) (hd : (x == ("__debug__" : Str)) = false := by decide) : EP K X (.Name x pos) (tC (.str z)) (eC (.str z)) := by
  obtain ⟨t, ht⟩ := h
  exact pConst hg ht ⟨t, rfl⟩ (fun _ => .str z) hd
end
end PL
/-! Calls as statements, their parts given apart. -/
namespace PL
open PySem L2 PySem.Spec PyProof.Rows
section
variable {K : PySem.W.Frag} {X : Cx} {e e1 e2 e3 o : Expr} {es : List Expr} {te t1 : TE} {tr : TA} {f : PL.Env → Option PyData} {fr : PL.Env → Option (List PyData)} {p pos spos px ap : Pos} {x n m : Str} {F : PL.Env → Option Out}
theorem zMe1 (j : Nat) (nd : X.N.Nodup) (h : EP K X e t1 f) (hpe : PE X e t1 → PE X (.Call (.Attribute o m ap) [e] [] pos) te) (hd : DenP K t1 f → DenS K (tAsg te (gName j)) F)
    (hN : X.N[j]? = some x := by rfl) (hl : Loc X.env.scope x := by first | exact Or.inl rfl | exact Or.inr rfl) (hf : X.fn x = true ∨ X.env.scope.names.lookup x = some .local := by first | exact Or.inr rfl | exact Or.inl rfl)
    (hs : swapsWithSole [.Name x px] (.Call (.Attribute o m ap) [e] [] pos) spos.line X.env = pure false := by rfl) (h2 : swappedStores [.Name x px] (.Call (.Attribute o m ap) [e] [] pos) X.env = pure none := by rfl) (h4 : (assignEach [.Name x px] X.env).map (·.2) = [assign (.Name x px) X.env] := by rfl) :
    ES K X (.Assign [.Name x px] (.Call (.Attribute o m ap) [e] [] pos) spos) (tAsg te (gName j)) F := ⟨ps_asg (hpe h.pe) (pg_name nd hN hl hf) hs h2 h4, hd h.de⟩
theorem zCaN (j : Nat) (nd : X.N.Nodup) (h : EB K X es tr fr) (hpe : PA X es tr → PE X (.Call (.Name n p) es [] pos) te) (hd : DenAP K tr fr → DenS K (tAsg te (gName j)) F)
    (hN : X.N[j]? = some x := by rfl) (hl : Loc X.env.scope x := by first | exact Or.inl rfl | exact Or.inr rfl) (hf : X.fn x = true ∨ X.env.scope.names.lookup x = some .local := by first | exact Or.inr rfl | exact Or.inl rfl)
    (hs : swapsWithSole [.Name x px] (.Call (.Name n p) es [] pos) spos.line X.env = pure false := by rfl) (h2 : swappedStores [.Name x px] (.Call (.Name n p) es [] pos) X.env = pure none := by rfl) (h4 : (assignEach [.Name x px] X.env).map (·.2) = [assign (.Name x px) X.env] := by rfl) :
    ES K X (.Assign [.Name x px] (.Call (.Name n p) es [] pos) spos) (tAsg te (gName j)) F := ⟨ps_asg (hpe h.pe) (pg_name nd hN hl hf) hs h2 h4, hd h.de⟩
theorem zReO (h : EP K X e1 t1 f) (hpe : PE X e1 t1 → PE X (.Call (.Name n p) [e1, e2, e3] [] pos) te) (hd : DenP K t1 f → DenS K (tRet te) F) : ES K X (.Return (some (.Call (.Name n p) [e1, e2, e3] [] pos)) spos) (tRet te) F := ⟨ps_ret (hpe h.pe), hd h.de⟩
end
end PL
/-! The rows that a script tells; rows as data. -/
namespace PR
open PySem L2 PySem.Spec PyProof.Rows PL
theorem kb5 : kitB "tuple" "tuple" = some true := by decide +kernel
theorem isi_tuple (l : List PyData) : gIsi "tuple" (.tuple l) = some (.bool true) := by
  show (kitB "tuple" "tuple").map PyData.bool = _
  rw [kb5]
  rfl
theorem eqv_all {α : Type} {f : α → PyData} (h : ∀ a, PyData.eqv (f a) (f a) = true) : ∀ l : List α, PyData.eqvAll (l.map f) (l.map f) = true
  | [] => rfl
  | a :: l => by
    show (PyData.eqv (f a) (f a) && PyData.eqvAll (l.map f) (l.map f)) = true
    rw [h, eqv_all h l]
    rfl
theorem eqv_s (x : Str) : PyData.eqv (.str x) (.str x) = true := by rw [eqv_str]; simp
theorem eqv_i (x : Int) : PyData.eqv (.int x) (.int x) = true := by rw [eqv_int]; simp
theorem eqv_row (r : PL.Row) : PyData.eqv (encR r) (encR r) = true := by
  have two : ∀ a b : PyData, PyData.eqv a a = true → PyData.eqv b b = true → PyData.eqvAll [a, b] [a, b] = true := fun a b h1 h2 => by
    show (PyData.eqv a a && (PyData.eqv b b && true)) = true
    rw [h1, h2]
    rfl
  have more : ∀ (a : PyData) (l : List PyData), PyData.eqv a a = true → PyData.eqvAll l l = true → PyData.eqvAll (a :: l) (a :: l) = true := fun a l h1 h2 => by
    show (PyData.eqv a a && PyData.eqvAll l l) = true
    rw [h1, h2]
    rfl
  rw [encR_rowD]
  show PyData.eqvAll (rowD r) (rowD r) = true
  cases r with
  | open_ p => exact two _ _ (eqv_s _) (eqv_s _)
  | lay n p z => exact more _ _ (eqv_s _) (more _ _ (eqv_s _) (two _ _ (eqv_s _) (eqv_i _)))
  | copy n o p => exact more _ _ (eqv_s _) (more _ _ (eqv_s _) (two _ _ (eqv_s _) (eqv_s _)))
  | same n o => exact more _ _ (eqv_s _) (two _ _ (eqv_s _) (eqv_s _))
  | add n o => exact more _ _ (eqv_s _) (two _ _ (eqv_s _) (eqv_s _))
  | tell n => exact two _ _ (eqv_s _) (eqv_s _)
  | give p => exact two _ _ (eqv_s _) (eqv_s _)
  | fork k => exact two _ _ (eqv_s _) (eqv_i _)
  | go k => exact two _ _ (eqv_s _) (eqv_i _)
  | end_ => exact more _ [] (eqv_s _) rfl
theorem fit_row {r : PL.Row} (h : ∀ x ∈ textsR r, PyData.strOk x = true) : Fit 1 (encR r) := by
  cases r <;> (refine fit_tup (n := 0) fun e me => ?_; simp only [List.mem_cons, List.not_mem_nil, or_false] at me)
  · rcases me with rfl | rfl
    · exact fit_str 0 (by decide +kernel)
    · exact fit_str 0 (h _ (by simp [textsR]))
  · rcases me with rfl | rfl | rfl | rfl
    · exact fit_str 0 (by decide +kernel)
    · exact fit_str 0 (h _ (by simp [textsR]))
    · exact fit_str 0 (h _ (by simp [textsR]))
    · exact fit_int 0 _
  · rcases me with rfl | rfl | rfl | rfl
    · exact fit_str 0 (by decide +kernel)
    · exact fit_str 0 (h _ (by simp [textsR]))
    · exact fit_str 0 (h _ (by simp [textsR]))
    · exact fit_str 0 (h _ (by simp [textsR]))
  · rcases me with rfl | rfl | rfl
    · exact fit_str 0 (by decide +kernel)
    · exact fit_str 0 (h _ (by simp [textsR]))
    · exact fit_str 0 (h _ (by simp [textsR]))
  · rcases me with rfl | rfl | rfl
    · exact fit_str 0 (by decide +kernel)
    · exact fit_str 0 (h _ (by simp [textsR]))
    · exact fit_str 0 (h _ (by simp [textsR]))
  · rcases me with rfl | rfl
    · exact fit_str 0 (by decide +kernel)
    · exact fit_str 0 (h _ (by simp [textsR]))
  · rcases me with rfl | rfl
    · exact fit_str 0 (by decide +kernel)
    · exact fit_str 0 (h _ (by simp [textsR]))
  · rcases me with rfl | rfl
    · exact fit_str 0 (by decide +kernel)
    · exact fit_int 0 _
  · rcases me with rfl | rfl
    · exact fit_str 0 (by decide +kernel)
    · exact fit_int 0 _
  · subst me
    exact fit_str 0 (by decide +kernel)
theorem cutD_mid (ds : List PyData) (a b : Nat) (h : a ≤ b) : PL.cutD ds (some (a : Int)) (some (b : Int)) = (ds.drop a).take (b - a) := by
  unfold PL.cutD
  rw [HT.sIx_nat, HT.sIx_nat]
  by_cases h1 : ds.length ≤ a
  · have e1 : min a ds.length = ds.length := Nat.min_eq_right h1
    rw [e1, List.drop_eq_nil_of_le (Nat.le_refl _), List.drop_eq_nil_of_le h1]
    simp
  · have e1 : min a ds.length = a := Nat.min_eq_left (by omega)
    rw [e1]
    by_cases h2 : b ≤ ds.length
    · rw [Nat.min_eq_left h2]
    · rw [Nat.min_eq_right (by omega), List.take_of_length_le (by rw [List.length_drop]; omega), List.take_of_length_le (by rw [List.length_drop]; omega)]
def manyC (ns : List Int) : Nat := (40 + ns.getD 5 0 / 8 % 21).toNat
def cellC (ns : List Int) (k : Nat) : Int := ns.getD (6 + k % 3) 0 / 7 + 7919 * (k : Int)
def cellsM (ns : List Int) : List Int := if ns.getD 5 0 % 8 = 1 then (List.range (manyC ns)).map (cellC ns) else (ns.drop 6).take 14
def rowsC (ns : List Int) : List PL.Row := (cellsM ns).map fun c => rowM (plotsM ns) (namesM ns) c ((cellsM ns).length : Int)
theorem cells_len (ns : List Int) : (cellsM ns).length ≤ 60 := by
  unfold cellsM
  split
  · rw [List.length_map, List.length_range]
    unfold manyC
    omega
  · rw [List.length_take]
    omega
theorem rowsC_len (ns : List Int) : (rowsC ns).length = (cellsM ns).length := by unfold rowsC; rw [List.length_map]
theorem rowsC_texts (ns : List Int) : ∀ r ∈ rowsC ns, ∀ x ∈ textsR r, PyData.strOk x = true := by
  intro r m
  unfold rowsC at m
  obtain ⟨c, _, rfl⟩ := List.mem_map.mp m
  have h1 := manyM_le ns
  have h2 := names_len ns
  exact row_texts (by rw [plots_len]; omega) (by omega) (plots_ok ns) (names_ok ns) c _
def rowAt (rows : List PL.Row) (p : Nat) : PL.Row := rows.getD p .end_
theorem rowAt_texts {rows : List PL.Row} (h : ∀ r ∈ rows, ∀ x ∈ textsR r, PyData.strOk x = true) (p : Nat) : ∀ x ∈ textsR (rowAt rows p), PyData.strOk x = true := by
  unfold rowAt
  rw [List.getD_eq_getElem?_getD]
  cases hg : rows[p]? with
  | none => intro x m; exact absurd m (by simp [textsR])
  | some r => exact h r (List.mem_of_getElem? hg)
def optI : Option Int → PyData
  | none => .none
  | some x => .int x
def encY (q : Option Int × Int) : PyData := .tuple [optI q.1, .int q.2]
def waysM (rows : List PL.Row) (p : Nat) : List (Option Int × Int) := match rowAt rows p with
  | .end_ => []
  | .go k => [(none, k)]
  | .fork k => [(some 0, (p : Int) + 1), (some 1, k)]
  | _ => [(none, (p : Int) + 1)]
theorem eqv_y (q : Option Int × Int) : PyData.eqv (encY q) (encY q) = true := by
  obtain ⟨a, b⟩ := q
  show (PyData.eqv (optI a) (optI a) && (PyData.eqv (.int b) (.int b) && true)) = true
  rw [eqv_i]
  cases a with
  | none => rfl
  | some x =>
    show (PyData.eqv (.int x) (.int x) && _) = true
    rw [eqv_i]
    rfl
theorem fit_y (q : Option Int × Int) : Fit 1 (encY q) := by
  obtain ⟨a, b⟩ := q
  refine fit_tup (n := 0) fun e me => ?_
  simp only [List.mem_cons, List.not_mem_nil, or_false] at me
  rcases me with rfl | rfl
  · cases a with
    | none => exact fit_none 0
    | some x => exact fit_int 0 x
  · exact fit_int 0 b
/-! ### the chain of a plot, step by step -/
theorem chain_at (ns : List Int) : ∀ i : Nat, i < manyM ns → ∀ (t : Nat) (x : Str), (outM (plotsM ns) (nameM ns i))[t]? = some x → ∃ j, j < manyM ns ∧ x = nameM ns j ∧ (outM (plotsM ns) (nameM ns i))[t + 1]? = (plotM ns j).2 := by
  intro i
  induction i using Nat.strongRecOn with
  | ind i ih =>
    intro hi t x hx
    rw [chain_rec ns i hi] at hx ⊢
    have hpn := pickM_nn ns i
    cases t with
    | zero =>
      rw [List.getElem?_cons_zero] at hx
      cases hx
      refine ⟨i, hi, rfl, ?_⟩
      rw [List.getElem?_cons_succ]
      unfold plotM
      by_cases hp : pickM ns i < i
      · rw [if_pos hp, if_pos hp, chain_rec ns _ (by omega)]
        rfl
      · rw [if_neg hp, if_neg hp]
        rfl
    | succ t =>
      rw [List.getElem?_cons_succ] at hx
      rw [List.getElem?_cons_succ]
      by_cases hp : pickM ns i < i
      · rw [if_pos hp] at hx ⊢
        exact ih (pickM ns i).toNat (by omega) (by omega) t x hx
      · rw [if_neg hp] at hx
        cases hx
theorem chain_len (ns : List Int) : ∀ i : Nat, i < manyM ns → 1 ≤ (outM (plotsM ns) (nameM ns i)).length ∧ (outM (plotsM ns) (nameM ns i)).length ≤ i + 1 := by
  intro i
  induction i using Nat.strongRecOn with
  | ind i ih =>
    intro hi
    rw [chain_rec ns i hi]
    have hpn := pickM_nn ns i
    by_cases hp : pickM ns i < i
    · rw [if_pos hp, List.length_cons]
      have := ih (pickM ns i).toNat (by omega) (by omega)
      omega
    · rw [if_neg hp]
      show 1 ≤ 1 ∧ 1 ≤ i + 1
      omega
theorem chain_mem (ns : List Int) (i : Nat) (hi : i < manyM ns) : ∀ x ∈ outM (plotsM ns) (nameM ns i), PyData.strOk x = true := by
  intro x m
  obtain ⟨t, ht⟩ := List.getElem?_of_mem m
  obtain ⟨j, hj, rfl, _⟩ := chain_at ns i hi t x ht
  have := manyM_le ns
  exact nameM_ok ns j (by omega)
end PR
/-! Words of rows by number; facts. -/
namespace PR
open PySem L2 PySem.Spec PyProof.Rows PL
def kindR : PL.Row → Nat
  | .open_ _ => 0 | .lay .. => 1 | .copy .. => 2 | .same .. => 3 | .add .. => 4 | .tell _ => 5 | .give _ => 6 | .fork _ => 7 | .go _ => 8 | .end_ => 9
def wtab : Nat → Str
  | 0 => "open" | 1 => "lay" | 2 => "copy" | 3 => "same" | 4 => "add" | 5 => "tell" | 6 => "give" | 7 => "fork" | 8 => "go" | 9 => "end" | _ => ""
theorem wordR_tab (r : PL.Row) : wordR r = wtab (kindR r) := by cases r <;> rfl
theorem kindR_lt (r : PL.Row) : kindR r < 10 := by cases r <;> exact Nat.le_of_ble_eq_true rfl
theorem wtab_inj : ∀ i, i < 10 → ∀ j, j < 10 → decide (wtab i = wtab j) = decide (i = j) := by decide +kernel
theorem wtab_ok : ∀ j, j < 10 → PyData.strOk (wtab j) = true := by decide +kernel
theorem weq (r : PL.Row) {j : Nat} (hj : j < 10) : decide (wordR r = wtab j) = decide (kindR r = j) := by
  rw [wordR_tab]
  exact wtab_inj _ (kindR_lt r) _ hj
theorem weq_ev {a : PL.Env → Option PyData} {env : PL.Env} {r : PL.Row} (j : Nat) {z : Str} (ha : a env = some (.str (wordR r))) (hz : wtab j = z := by rfl) (hj : j < 10 := by decide) : tE (e2 gEq a (eC (.str z))) env = some (decide (kindR r = j)) := by
  subst hz
  rw [← weq r hj]
  exact eqz_ev ha rfl (wordR_ok r) (wtab_ok _ hj)
theorem wne_ev {a : PL.Env → Option PyData} {env : PL.Env} {r : PL.Row} (j : Nat) {z : Str} (ha : a env = some (.str (wordR r))) (hz : wtab j = z := by rfl) (hj : j < 10 := by decide) : tE (e2 gNe a (eC (.str z))) env = some (!decide (kindR r = j)) := by
  subst hz
  rw [← weq r hj]
  exact nez_ev ha rfl (wordR_ok r) (wtab_ok _ hj)
theorem look_tab {j : Nat} (hj : j < 10) (d : PyData) (rest : List (PyData × PyData)) (r : PL.Row) : lookP ((.str (wtab j), d) :: rest) (wordR r) = if kindR r = j then some d else lookP rest (wordR r) := by
  have h := weq r hj
  show (if wtab j = wordR r then some d else lookP rest (wordR r)) = _
  by_cases e : kindR r = j
  · rw [decide_eq_true e] at h
    rw [if_pos e, if_pos (of_decide_eq_true h).symm]
  · rw [decide_eq_false e] at h
    rw [if_neg e, if_neg (fun z => of_decide_eq_false h z.symm)]
theorem rl_no {t : PL.Env → Option Bool} {F R : PL.Env → Option Out} {env : PL.Env} (h : t env = some false) : sSeq (sIf t F sNext) R env = R env := by
  rw [if_seq h]
  rfl
theorem rl_yes {t : PL.Env → Option Bool} {F F2 R : PL.Env → Option Out} {env : PL.Env} (h : t env = some true) : sSeq (sIf t F F2) R env = sSeq F R env := by
  rw [if_seq h]
  rfl
theorem rt_ev {f : PL.Env → Option PyData} {R : PL.Env → Option Out} {env : PL.Env} {d : PyData} (h : f env = some d) : sSeq (sRet f) R env = some (.rt d) := by
  unfold sSeq sRet
  rw [h]
  rfl
theorem rt1_ev {f : PL.Env → Option PyData} {env : PL.Env} {d : PyData} (h : f env = some d) : sRet f env = some (.rt d) := by
  unfold sRet
  rw [h]
  rfl
theorem eqiv_ev {a b : PL.Env → Option PyData} {env : PL.Env} {i j : Int} (ha : a env = some (.int i)) (hb : b env = some (.int j)) : e2 gEq a b env = some (.bool (decide (i = j))) := by
  have h := eqi_ev ha hb
  unfold tE at h
  obtain ⟨d, hd, hb⟩ := Option.bind_eq_some_iff.mp h
  cases d <;> first | (cases hb; exact hd) | cases hb
theorem asg_seq {f : PL.Env → Option PyData} {gs : List PyData → PL.Env → Option PL.Env} {n : Nat} {F : PL.Env → Option Out} {env e : PL.Env} {d : PyData} (h : f env = some d) (hg : tgT n gs d env = some e) : sSeq (sAsg f (tgT n gs)) F env = F e := by
  unfold sSeq sAsg
  rw [h]
  simp only [Option.bind_some]
  rw [hg]
  rfl
/-! ### facts -/
inductive Fact where
  | plot (x : Str) (b : Bool)
  | name (x : Str) (w : Option Str)
  deriving DecidableEq
def encF : Fact → PyData
  | .plot x b => .tuple [.str "plot", .str x, .bool b]
  | .name x w => .tuple [.str "name", .str x, optD w]
def okF : Fact → Prop
  | .plot x _ => PyData.strOk x = true
  | .name x w => PyData.strOk x = true ∧ ∀ z, w = some z → PyData.strOk z = true
def wantN : PL.Row → List Str
  | .copy _ o _ => [o] | .same _ o => [o] | .add n o => [n, o] | .tell n => [n] | _ => []
def wantP (ps : List (Str × Option Str)) : PL.Row → Option Str
  | .open_ x => (getA ps x).getD none
  | .lay _ p _ => some p | .copy _ _ p => some p | .give p => some p | _ => none
/-- the word by which a row goes wrong by a fact alone -/
def wbM (ps : List (Str × Option Str)) (r : PL.Row) : Fact → Str
  | .plot x true => if kindR r = 9 then "left" else if r = .open_ x then "open already" else ""
  | .plot x false => if wantP ps r = some x then "not open" else ""
  | .name x w => if x ∈ wantN r then (match w with
    | none => "nothing"
    | some z => if z = "" ∧ kindR r ≠ 3 then "gone" else "") else ""
theorem wbM_up (ps : List (Str × Option Str)) (r : PL.Row) (x : Str) : wbM ps r (.plot x true) = (if kindR r = 9 then ("left" : Str) else if r = .open_ x then ("open already" : Str) else ("" : Str)) := rfl
theorem wbM_shut (ps : List (Str × Option Str)) (r : PL.Row) (x : Str) : wbM ps r (.plot x false) = (if wantP ps r = some x then ("not open" : Str) else ("" : Str)) := rfl
theorem wbM_name (ps : List (Str × Option Str)) (r : PL.Row) (x : Str) (w : Option Str) : wbM ps r (.name x w) = (if x ∈ wantN r then (match w with
    | none => ("nothing" : Str)
    | some z => if z = "" ∧ kindR r ≠ 3 then ("gone" : Str) else ("" : Str)) else ("" : Str)) := rfl
def RowOf (ps : List (Str × Option Str)) (r : PL.Row) : Prop := (∀ x ∈ textsR r, PyData.strOk x = true) ∧ ∀ x, r = .open_ x → x ∈ ps.map (·.1)
structure PGood (ps : List (Str × Option Str)) : Prop where
  ok : ps.all okP = true
  len : ps.length ≤ 1000
  nd : (ps.map (·.1)).Nodup
theorem pgood (ns : List Int) : PGood (plotsM ns) := ⟨plots_ok ns, by have := manyM_le ns; rw [plots_len]; omega, plots_nodup ns⟩
theorem PGood.str {ps : List (Str × Option Str)} (G : PGood ps) {x : Str} (h : x ∈ ps.map (·.1)) : PyData.strOk x = true := by
  obtain ⟨q, mq, e⟩ := List.mem_map.mp h
  rw [← e]
  have := List.all_eq_true.mp G.ok q mq
  unfold okP at this
  rw [Bool.and_eq_true] at this
  exact this.1
theorem PGood.out {ps : List (Str × Option Str)} (G : PGood ps) {q : Str × Option Str} (h : q ∈ ps) : ∀ z, q.2 = some z → PyData.strOk z = true := by
  intro z e
  have := List.all_eq_true.mp G.ok q h
  unfold okP at this
  rw [Bool.and_eq_true, e] at this
  exact this.2
theorem row_of {ps : List (Str × Option Str)} {nms : List Str} (G : PGood ps) (h1 : 0 < ps.length) (h2 : 0 < nms.length) (hn : ∀ x ∈ nms, PyData.strOk x = true) (c sz : Int) : RowOf ps (rowM ps nms c sz) := by
  refine ⟨row_texts h1 h2 G.ok hn c sz, fun x e => ?_⟩
  unfold rowM at e
  split at e <;> try cases e
  exact pickS_mem (by rw [List.length_map]; exact h1)
def whM (p : Str) : Nat → Option Str
  | 0 => none
  | 1 => some ""
  | _ => some p
def factM (ps : List (Str × Option Str)) (nms : List Str) (c : Int) : Fact :=
  if c % 3 = 0 then .plot (pickS (ps.map (·.1)) (c / 12 * 48271 % 10007)) (decide (c / 3 % 2 = 0))
  else .name (pickS nms (c / 36 * 16807 % 10009)) (whM (pickS (ps.map (·.1)) (c / 12 * 48271 % 10007)) (c / 3 % 4).toNat)
theorem factM_ok {ps : List (Str × Option Str)} {nms : List Str} (G : PGood ps) (h1 : 0 < ps.length) (h2 : 0 < nms.length) (hn : ∀ x ∈ nms, PyData.strOk x = true) (c : Int) : okF (factM ps nms c) := by
  have hp : PyData.strOk (pickS (ps.map (·.1)) (c / 12 * 48271 % 10007)) = true := G.str (pickS_mem (by rw [List.length_map]; exact h1))
  unfold factM
  split
  · exact hp
  · refine ⟨hn _ (pickS_mem h2), fun z e => ?_⟩
    unfold whM at e
    split at e
    · cases e
    · cases e
      decide +kernel
    · cases e
      exact hp
theorem pairsD_enc : ∀ ps : List (Str × Option Str), pairsD (ps.map encP) = some (ps.map fun q => (q.1, optD q.2))
  | [] => rfl
  | q :: ps => by
    show (pairD (encP q)).bind (fun q => (pairsD (ps.map encP)).map (q :: ·)) = _
    rw [pairsD_enc ps]
    rfl
theorem dict_ev {a : PL.Env → Option PyData} {env : PL.Env} {ps : List (Str × Option Str)} (ha : a env = some (encPs ps)) (nd : (ps.map (·.1)).Nodup) : eA gDict (aCons a aNil) env = some (.dict (kvP (ps.map (·.1)) (ps.map fun q => optD q.2))) := by
  unfold eA
  rw [acons_ev ha anil_ev]
  show (pairsD (ps.map encP)).bind (fun ps => if (ps.map (·.1)).Nodup then some (PyData.dict (kvP (ps.map (·.1)) (ps.map (·.2)))) else none) = _
  have h1 : (ps.map fun q => (q.1, optD q.2)).map (·.1) = ps.map (·.1) := by rw [List.map_map]; rfl
  have h2 : (ps.map fun q => (q.1, optD q.2)).map (·.2) = ps.map fun q => optD q.2 := by rw [List.map_map]; rfl
  rw [pairsD_enc, Option.bind_some, h1, h2, if_pos nd]
theorem look_ps {x : Str} : ∀ {ps : List (Str × Option Str)}, lookP (kvP (ps.map (·.1)) (ps.map fun q => optD q.2)) x = (getA ps x).map optD
  | [] => rfl
  | q :: ps => by
    show (if q.1 = x then some (optD q.2) else lookP (kvP (ps.map (·.1)) (ps.map fun q => optD q.2)) x) = _
    unfold getA
    by_cases e : q.1 = x
    · rw [if_pos e, List.find?_cons_of_pos (by simp [e])]
      rfl
    · rw [if_neg e, List.find?_cons_of_neg (by simp [e]), look_ps]
      rfl
theorem get_mem {ps : List (Str × Option Str)} {x : Str} (nd : (ps.map (·.1)).Nodup) (h : x ∈ ps.map (·.1)) : ∃ q ∈ ps, q.1 = x ∧ getA ps x = some q.2 := by
  obtain ⟨q, mq, rfl⟩ := List.mem_map.mp h
  exact ⟨q, mq, rfl, get_of_mem' nd mq⟩
theorem filt_key {α : Type} {l : List (Str × α)} {q : Str × α} (f : Str × α → Bool) (nd : (l.map (·.1)).Nodup) (m : q ∈ l) : l.filter (fun a => decide (a.1 = q.1) && f a) = if f q = true then [q] else [] := by
  induction l with
  | nil => cases m
  | cons a l ih =>
    rw [List.map_cons, List.nodup_cons] at nd
    rcases List.mem_cons.mp m with e | m
    · subst e
      have : l.filter (fun a => decide (a.1 = q.1) && f a) = [] := List.filter_eq_nil_iff.mpr fun b mb z => by
        rw [Bool.and_eq_true, decide_eq_true_eq] at z
        exact nd.1 (z.1 ▸ List.mem_map_of_mem mb)
      by_cases h : f q = true
      · rw [List.filter_cons_of_pos (by simp [h]), this, if_pos h]
      · rw [List.filter_cons_of_neg (by simp [h]), this, if_neg h]
    · have ne : ¬ a.1 = q.1 := fun e => nd.1 (e ▸ List.mem_map_of_mem m)
      rw [List.filter_cons_of_neg (by simp [ne])]
      exact ih nd.2 m
/-- a text in a list of texts or nothing -/
theorem in_opts {neg : Bool} {x : Str} {l : List (Option Str)} (hx : PyData.strOk x = true) (hl : ∀ y ∈ l, ∀ z, y = some z → PyData.strOk z = true) : gInL neg (.str x) (.list (l.map optD)) = some (.bool (if neg then !decide (some x ∈ l) else decide (some x ∈ l))) := by
  unfold gInL
  have h1 : SeqAt.shaped (.list (l.map optD)) = true := (fit_list (n := 0) fun d m => by
    obtain ⟨y, my, rfl⟩ := List.mem_map.mp m
    cases y with
    | none => exact fit_none 0
    | some z => exact fit_str 0 (hl _ my z rfl)).sh (by omega)
  show (if SeqAt.shaped (.str x) && SeqAt.shaped (.list (l.map optD)) then some (PyData.bool (if neg then !(l.map optD).any fun z => PyData.eqv z (.str x) else (l.map optD).any fun z => PyData.eqv z (.str x))) else none) = _
  rw [shaped_str hx, h1]
  have h2 : ((l.map optD).any fun z => PyData.eqv z (.str x)) = decide (some x ∈ l) := by
    rw [List.any_map, Bool.eq_iff_iff, List.any_eq_true, decide_eq_true_eq]
    constructor
    · rintro ⟨y, my, e⟩
      cases y with
      | none => exact absurd e (by intro z; cases z)
      | some y =>
        have e' : PyData.eqv (.str y) (.str x) = true := e
        rw [eqv_str] at e'
        rw [← of_decide_eq_true e']
        exact my
    · intro m
      refine ⟨some x, m, ?_⟩
      show PyData.eqv (.str x) (.str x) = true
      rw [eqv_str]
      simp
  rw [h2]
  rfl
theorem ino_ev {neg : Bool} {a b : PL.Env → Option PyData} {env : PL.Env} {x : Str} {l : List (Option Str)} (ha : a env = some (.str x)) (hb : b env = some (.list (l.map optD))) (hx : PyData.strOk x = true) (hl : ∀ y ∈ l, ∀ z, y = some z → PyData.strOk z = true) : tE (e2 (gInL neg) a b) env = some (if neg then !decide (some x ∈ l) else decide (some x ∈ l)) := te2r_ev ha hb (in_opts hx hl)
end PR
/-! What stems from a fact. -/
namespace PR
open PySem L2 PySem.Spec PyProof.Rows PL
theorem outGo_mem {y : Str} : ∀ {l : List (Str × Option Str)} {w : Option Str}, y ∈ outGo l w → y ∈ l.map (·.1)
  | [], _, h => by cases h
  | q :: l, w, h => by
    rw [List.map_cons]
    have h : y ∈ (if w = some q.1 then q.1 :: outGo l q.2 else outGo l w) := h
    split at h
    · rcases List.mem_cons.mp h with e | h
      · rw [e]; exact List.mem_cons_self ..
      · exact List.mem_cons_of_mem _ (outGo_mem h)
    · exact List.mem_cons_of_mem _ (outGo_mem h)
theorem outM_mem {ps : List (Str × Option Str)} {x y : Str} (h : y ∈ outM ps x) : y ∈ ps.map (·.1) := by
  have := outGo_mem h
  rw [List.map_reverse, List.mem_reverse] at this
  exact this
theorem andb_ev {a b : PL.Env → Option PyData} {env : PL.Env} {x y : Bool} (ha : tE a env = some x) (hb : x = true → b env = some (.bool y)) : eAndB a b env = some (.bool (x && y)) := by
  unfold eAndB
  rw [ha]
  cases x with
  | true => exact hb rfl
  | false => rfl
theorem orb_ev {a b : PL.Env → Option PyData} {env : PL.Env} {x y : Bool} (ha : tE a env = some x) (hb : x = false → b env = some (.bool y)) : eOrB a b env = some (.bool (x || y)) := by
  unfold eOrB
  rw [ha]
  cases x with
  | false => exact hb rfl
  | true => rfl
theorem tv_ev {f : PL.Env → Option PyData} {env : PL.Env} {b : Bool} (h : tE f env = some b) : f env = some (.bool b) := by
  unfold tE at h
  obtain ⟨d, hd, hb⟩ := Option.bind_eq_some_iff.mp h
  cases d <;> first | (cases hb; exact hd) | cases hb
theorem vt_ev {f : PL.Env → Option PyData} {env : PL.Env} {b : Bool} (h : f env = some (.bool b)) : tE f env = some b := by
  unfold tE
  rw [h]
  rfl
def laysR : PL.Row → Bool
  | .lay .. => true | .copy .. => true | _ => false
def firstN : PL.Row → Str
  | .lay n _ _ => n | .copy n _ _ => n | .same n _ => n | _ => ""
def givesM (ps : List (Str × Option Str)) : PL.Row → Str → Bool
  | .give p, x => decide (p ∈ outM ps x)
  | _, _ => false
def gvM (ps : List (Str × Option Str)) (r : PL.Row) : Option Str → Bool
  | none => false
  | some z => decide (z ≠ "") && givesM ps r z
def bhP (ps : List (Str × Option Str)) (r : PL.Row) (x : Str) (b : Bool) : List Fact :=
  if r = .open_ x then [.plot x true] else if givesM ps r x = true then [.plot x false] else if laysR r = true ∧ wantP ps r = some x then [.plot x b, .name (firstN r) (some x)] else [.plot x b]
def bhN (ps : List (Str × Option Str)) (r : PL.Row) (x : Str) (w : Option Str) : List Fact := match r with
  | .same n o => if n = o then [.name x w] else (if x = n then [] else [.name x w]) ++ (if x = o then [.name n w] else [])
  | .lay n _ _ => if n = x then [] else [.name x w]
  | .copy n _ _ => if n = x then [] else [.name x w]
  | .give p => match w with
    | none => [.name x none]
    | some z => if z ≠ "" ∧ p ∈ outM ps z then [.name x (some "")] else [.name x w]
  | _ => [.name x w]
/-- what stems from a fact -/
def bhM (ps : List (Str × Option Str)) (r : PL.Row) : Fact → List Fact
  | .plot x b => bhP ps r x b
  | .name x w => bhN ps r x w
theorem firstN_ok {r : PL.Row} (h : ∀ x ∈ textsR r, PyData.strOk x = true) : PyData.strOk (firstN r) = true := by
  cases r <;> first | exact (by decide +kernel : PyData.strOk ("" : Str) = true) | exact h _ (by simp [textsR, firstN])
theorem bhM_ok {ps : List (Str × Option Str)} {r : PL.Row} {f : Fact} (hr : ∀ x ∈ textsR r, PyData.strOk x = true) (hf : okF f) : ∀ g ∈ bhM ps r f, okF g := by
  have h0 : PyData.strOk ("" : Str) = true := by decide +kernel
  intro g m
  cases f with
  | plot x b =>
    have m : g ∈ bhP ps r x b := m
    have hx : PyData.strOk x = true := hf
    unfold bhP at m
    split at m
    · rw [List.mem_singleton] at m; rw [m]; exact hx
    · split at m
      · rw [List.mem_singleton] at m; rw [m]; exact hx
      · split at m
        · simp only [List.mem_cons, List.not_mem_nil, or_false] at m
          rcases m with rfl | rfl
          · exact hx
          · exact ⟨firstN_ok hr, fun z e => by cases e; exact hx⟩
        · rw [List.mem_singleton] at m; rw [m]; exact hx
  | name x w =>
    have m : g ∈ bhN ps r x w := m
    cases r with
    | same n o =>
      have m : g ∈ (if n = o then [Fact.name x w] else (if x = n then [] else [.name x w]) ++ (if x = o then [.name n w] else [])) := m
      split at m
      · rw [List.mem_singleton] at m; rw [m]; exact hf
      · rcases List.mem_append.mp m with m | m
        · split at m
          · cases m
          · rw [List.mem_singleton] at m; rw [m]; exact hf
        · split at m
          · rw [List.mem_singleton] at m; rw [m]; exact ⟨hr n (by simp [textsR]), hf.2⟩
          · cases m
    | lay n p z =>
      have m : g ∈ (if n = x then [] else [Fact.name x w]) := m
      split at m
      · cases m
      · rw [List.mem_singleton] at m; rw [m]; exact hf
    | copy n o p =>
      have m : g ∈ (if n = x then [] else [Fact.name x w]) := m
      split at m
      · cases m
      · rw [List.mem_singleton] at m; rw [m]; exact hf
    | give p =>
      cases w with
      | none =>
        have m : g ∈ [Fact.name x none] := m
        rw [List.mem_singleton] at m; rw [m]; exact hf
      | some z =>
        have m : g ∈ (if z ≠ "" ∧ p ∈ outM ps z then [Fact.name x (some "")] else [.name x (some z)]) := m
        split at m
        · rw [List.mem_singleton] at m; rw [m]; exact ⟨hf.1, fun z e => by cases e; exact h0⟩
        · rw [List.mem_singleton] at m; rw [m]; exact hf
    | _ =>
      have m : g ∈ [Fact.name x w] := m
      rw [List.mem_singleton] at m; rw [m]; exact hf
theorem eqv_b (b : Bool) : PyData.eqv (.bool b) (.bool b) = true := by cases b <;> rfl
theorem eqv_o (o : Option Str) : PyData.eqv (optD o) (optD o) = true := by
  cases o with
  | none => rfl
  | some x => exact eqv_s x
theorem eqv_fact (f : Fact) : PyData.eqv (encF f) (encF f) = true := by
  cases f with
  | plot x b =>
    show (PyData.eqv (.str "plot") (.str "plot") && (PyData.eqv (.str x) (.str x) && (PyData.eqv (.bool b) (.bool b) && true))) = true
    rw [eqv_s, eqv_s, eqv_b]
    rfl
  | name x w =>
    show (PyData.eqv (.str "name") (.str "name") && (PyData.eqv (.str x) (.str x) && (PyData.eqv (optD w) (optD w) && true))) = true
    rw [eqv_s, eqv_s, eqv_o]
    rfl
theorem fit_fact {f : Fact} (h : okF f) : Fit 1 (encF f) := by
  cases f with
  | plot x b =>
    refine fit_tup (n := 0) fun e me => ?_
    simp only [List.mem_cons, List.not_mem_nil, or_false] at me
    rcases me with rfl | rfl | rfl
    · exact fit_str 0 (by decide +kernel)
    · exact fit_str 0 h
    · exact fit_bool 0 b
  | name x w =>
    refine fit_tup (n := 0) fun e me => ?_
    simp only [List.mem_cons, List.not_mem_nil, or_false] at me
    rcases me with rfl | rfl | rfl
    · exact fit_str 0 (by decide +kernel)
    · exact fit_str 0 h.1
    · cases w with
      | none => exact fit_none 0
      | some z => exact fit_str 0 (h.2 z rfl)
theorem fit_facts {l : List Fact} (h : ∀ g ∈ l, okF g) : Fit 2 (.list (l.map encF)) := fit_list fun d m => by
  obtain ⟨g, mg, rfl⟩ := List.mem_map.mp m
  exact fit_fact (h g mg)
theorem rowIs_ev {a b : PL.Env → Option PyData} {env : PL.Env} {r : PL.Row} {x : Str} (ha : a env = some (encR r)) (hb : b env = some (encR (.open_ x))) (hr : ∀ x ∈ textsR r, PyData.strOk x = true) (hx : PyData.strOk x = true) : tE (e2 gEq a b) env = some (decide (r = .open_ x)) := by
  refine te2r_ev ha hb ?_
  show (if SeqAt.shaped (encR r) && SeqAt.shaped (encR (.open_ x)) then some (PyData.bool (PyData.eqv (encR r) (encR (.open_ x)))) else none) = _
  rw [(fit_row hr).sh (by omega), (fit_row (r := .open_ x) (fun y m => by
    simp only [textsR, List.mem_cons, List.not_mem_nil, or_false] at m
    rw [m]
    exact hx)).sh (by omega)]
  show some (PyData.bool (PyData.eqv (encR r) (encR (.open_ x)))) = _
  congr 2
  rw [encR_rowD, encR_rowD]
  show PyData.eqvAll (rowD r) (rowD (.open_ x)) = _
  have hw : PyData.eqv (.str (wordR r)) (.str (wtab 0)) = decide (kindR r = 0) := by
    rw [eqv_str]
    exact weq r (by decide)
  cases r with
  | open_ y =>
    show (PyData.eqv (.str "open") (.str "open") && (PyData.eqv (.str y) (.str x) && true)) = _
    rw [eqv_str, eqv_str, Bool.and_true, decide_eq_true rfl, Bool.true_and]
    exact decide_eq_decide.mpr ⟨fun h => by rw [h], fun h => by cases h; rfl⟩
  | lay n p z => exact (congrArg (· && _) hw).trans (decide_eq_false (fun z => by cases z)).symm
  | copy n o p => exact (congrArg (· && _) hw).trans (decide_eq_false (fun z => by cases z)).symm
  | same n o => exact (congrArg (· && _) hw).trans (decide_eq_false (fun z => by cases z)).symm
  | add n o => exact (congrArg (· && _) hw).trans (decide_eq_false (fun z => by cases z)).symm
  | tell n => exact (congrArg (· && _) hw).trans (decide_eq_false (fun z => by cases z)).symm
  | give p => exact (congrArg (· && _) hw).trans (decide_eq_false (fun z => by cases z)).symm
  | fork k => exact (congrArg (· && _) hw).trans (decide_eq_false (fun z => by cases z)).symm
  | go k => exact (congrArg (· && _) hw).trans (decide_eq_false (fun z => by cases z)).symm
  | end_ => exact (congrArg (· && _) hw).trans (decide_eq_false (fun z => by cases z)).symm
theorem rn_ev {f : PL.Env → Option (List PyData)} {R : PL.Env → Option Out} {env : PL.Env} {ds : List PyData} (h : f env = some ds) : sSeq (sRetN f) R env = some (.rtn ds) := by
  unfold sSeq sRetN
  rw [h]
  rfl
theorem rn1_ev {f : PL.Env → Option (List PyData)} {env : PL.Env} {ds : List PyData} (h : f env = some ds) : sRetN f env = some (.rtn ds) := by
  unfold sRetN
  rw [h]
  rfl
theorem seq_rtn {F R : PL.Env → Option Out} {env : PL.Env} {ds : List PyData} (h : F env = some (.rtn ds)) : sSeq F R env = some (.rtn ds) := by
  unfold sSeq
  rw [h]
  rfl
theorem nlst_ev {f : PL.Env → Option (List PyData)} {env : PL.Env} {ds : List PyData} (h : f env = some ds) (hl : ds.length ≤ 100000) : nLst f env = some ds := by
  unfold nLst short
  rw [h, Option.bind_some, if_pos hl]
theorem wantP_ok {ps : List (Str × Option Str)} (G : PGood ps) {r : PL.Row} (hr : RowOf ps r) : ∀ z, wantP ps r = some z → PyData.strOk z = true := fun z e => by
  cases r with
  | open_ y =>
    obtain ⟨q, mq, _, hg⟩ := get_mem G.nd (hr.2 y rfl)
    have e' : (getA ps y).getD none = some z := e
    rw [hg] at e'
    exact G.out mq z e'
  | lay n p k => cases e; exact hr.1 _ (by simp [textsR])
  | copy n o p => cases e; exact hr.1 _ (by simp [textsR])
  | give p => cases e; exact hr.1 _ (by simp [textsR])
  | _ => cases e
theorem eqo_ev {a b : PL.Env → Option PyData} {env : PL.Env} {n : Str} {w : Option Str} (ha : a env = some (optD w)) (hb : b env = some (.str n)) (h1 : PyData.strOk n = true) (h2 : ∀ x, w = some x → PyData.strOk x = true) : tE (e2 gEq a b) env = some (decide (w = some n)) := by
  refine te2r_ev ha hb ?_
  cases w with
  | none =>
    show (if SeqAt.shaped .none && SeqAt.shaped (.str n) then some (PyData.bool (PyData.eqv .none (.str n))) else none) = _
    rw [shaped_str h1]
    rfl
  | some x =>
    show (if SeqAt.shaped (.str x) && SeqAt.shaped (.str n) then some (PyData.bool (PyData.eqv (.str x) (.str n))) else none) = _
    rw [shaped_str h1, shaped_str (h2 x rfl), eqv_str]
    show some (PyData.bool (decide (x = n))) = some (PyData.bool (decide (some x = some n)))
    congr 2
    exact decide_eq_decide.mpr ⟨fun h => by rw [h], fun h => Option.some.inj h⟩
theorem len_ne (z : Str) : ((z.length : Int) != 0) = decide (z ≠ "") := by
  rw [Bool.eq_iff_iff, bne_iff_ne, decide_eq_true_eq]
  constructor
  · intro h e
    rw [e] at h
    exact h (by decide +kernel)
  · intro h e
    apply h
    have hl : (cs z).length = 0 := by rw [cs_len]; omega
    have : cs z = [] := List.length_eq_zero_iff.mp hl
    exact cs_inj (this.trans (by decide +kernel : ([] : List Nat) = cs (Str.ofString "")))
end PR
/-! Is a text no key of a table of the top: either answer, for the texts ms that are none. -/
namespace PL
open PySem L2 PySem.Spec PyProof.Rows
/-- the texts ms are no keys of the table at p -/
structure TabNo (K : PySem.W.Frag) (w : World) (p : Addr) (ms : List Str) : Prop where
  no : ∃ es n, K.lookup p = some ⟨.type "dict", none, .dict es n, #[]⟩ ∧ PySem.W.KeysLit w.params es.toList ∧ ∀ z ∈ ms, PySem.W.nsIn K p z = some none
def rNotM (p : Addr) (tb : List (Str × List Str)) (ms : List Str) : R2 := fun x y H Q => ∃ (z : Str) (b : Bool), x = .str z ∧ y = .ref p ∧ (((∃ ks, lookT tb z = some ks) ∧ b = false) ∨ (z ∈ ms ∧ b = true)) ∧ Q (.bl b) H
def eNotTabM (tb : List (Str × List Str)) (ms : List Str) (f : PL.Env → Option PyData) : PL.Env → Option PyData := fun env => (f env).bind fun
  | .str z => match lookT tb z with
    | some _ => some (.bool false)
    | none => if z ∈ ms then some (.bool true) else none
  | _ => none
section
variable {X : Cx} {p : Addr} {tb : List (Str × List Str)} {ms : List Str}
theorem op_ntM (T : TabOk X.K X.w p tb) (low : (p == sysModules) = false) (N : TabNo X.K X.w p ms) : OpR X (compareOp .NotIn) (rNotM p tb ms) := by
  intro pins s σ H x y v u Q I rx ry h
  obtain ⟨z, b, rfl, rfl, hk, q⟩ := h
  rcases hk with ⟨⟨ks, hk⟩, rfl⟩ | ⟨hz, rfl⟩
  · exact op_nt T low pins s σ H _ _ v u Q I rx ry ⟨z, ks, rfl, rfl, hk, q⟩
  · obtain ⟨es, n, hl, hkl, hn⟩ := N.no
    exact op_notIn_kd ⟨hl, hkl, low⟩ pins s σ H _ _ v u Q I rx ry ⟨z, none, rfl, rfl, hn z hz, q⟩
end
section
variable {K : PySem.W.Frag} {X : Cx} {e : Expr} {te : TE} {f : PL.Env → Option PyData} {x : Str} {px pos : Pos} {tb : List (Str × List Str)} {ms : List Str} {p : Addr}
theorem den_ntM (h : Den K te f) : DenP K (tOp (rNotM p tb ms) te (tC (.ref p))) (eNotTabM tb ms f) := by
  intro base O0 O σ H env d S e Q q
  unfold eNotTabM at e
  cases k1 : f env with
  | none => rw [k1] at e; cases e
  | some w =>
    rw [k1, Option.bind_some] at e
    split at e
    · rename_i z
      refine h base O0 O σ H env _ S k1 _ fun v H1 x1 o1 => ?_
      rw [o1.str]
      split at e
      · rename_i ks hk
        cases e
        exact ⟨z, false, rfl, rfl, .inl ⟨⟨_, hk⟩, rfl⟩, q _ H1 x1 (.bl _)⟩
      · split at e
        · rename_i hz
          cases e
          exact ⟨z, true, rfl, rfl, .inr ⟨hz, rfl⟩, q _ H1 x1 (.bl _)⟩
        · cases e
    · cases e
theorem tNTbM (T : TabOk K X.w p tb) (low : (p == sysModules) = false) (N : TabNo K X.w p ms) (hm : X.mg x = some (.ref p)) (h : EO K X e te f) (hg : Gl X x := by rfl) (hb : behindInMarks .NotIn (.Name x px) = false := by rfl) (hdb : (x == ("__debug__" : Str)) = false := by decide) (hK : X.K = K := by rfl) :
    ET K X (.Compare e [.NotIn] [.Name x px] pos) (tTest (tOp (rNotM p tb ms) te (tC (.ref p)))) (tE (eNotTabM tb ms f)) := by
  subst hK
  exact ⟨pt_cmpR (op_ntM T low N) h.pe (pe_glob hg hm rfl hdb) hb, den_test (den_ntM h.de).o⟩
end
end PL
namespace K01
open PySem L2 PySem.Spec PyProof.Rows PL PR
def topS (i : Nat) : Stmt := PySem.Challenge.pw_plotfree_k01_programs_let_by.main.body.getD i (.Pass ⟨0, 0, 0, 0⟩)
def tab_SHAPES : List (Str × List Str) := [("open", ["plot"]), ("lay", ["name", "plot", "number"]), ("copy", ["name", "name", "plot"]), ("same", ["name", "name"]), ("add", ["name", "name"]), ("tell", ["name"]), ("give", ["plot"]), ("fork", ["place"]), ("go", ["place"]), ("end", [])]
def miss_SHAPES : List Str := ["hop"]
structure Bt (mg : Str → Option Value) : Prop where
  abs : mg "abs" = none
  bool : mg "bool" = none
  enumerate : mg "enumerate" = none
  int : mg "int" = none
  isinstance : mg "isinstance" = none
  len : mg "len" = none
  list : mg "list" = none
  max : mg "max" = none
  range : mg "range" = none
  reversed : mg "reversed" = none
  sorted : mg "sorted" = none
  str : mg "str" = none
  tuple : mg "tuple" = none
  zip : mg "zip" = none
  LETTERS : StrAt mg "LETTERS" "abcdefghijklmnopqrstuvwxyz"
  MOST_LETTERS : IntAt mg "MOST_LETTERS" 8
  MOST_NUMBER : IntAt mg "MOST_NUMBER" 1000000000000000000
  MOST_PLOTS : IntAt mg "MOST_PLOTS" 12
  MOST_ROWS : IntAt mg "MOST_ROWS" 60
section
variable {P : Program} {w : World} {K : PySem.W.Frag} {mg : Str → Option Value} {base : Heap}
/-! is_number: number 0 -/
abbrev s_is_number : Stmt := topS 18
abbrev N_is_number : List Str := ["number"]
theorem sc_is_number : FnScope N_is_number ["number"] (defScope s_is_number) := ⟨rfl, rfl, rfl, by decide +kernel, rfl, by decide +kernel, by decide +kernel⟩
def F_is_number : PL.Env → Option Out := (sRet (eAndB (e1 (gIsi "int") (eVarO 0)) (eNotB (e1 (gIsi "bool") (eVarO 0)))))
def f_is_number : List PyData → Option PyData := fnD 1 F_is_number
theorem ok_is_number {f : Addr} {fd : FuncData} (F : Fun K "is_number" "is_number" s_is_number f fd) (T : Bt mg) : FnOk P w K mg base CX0 1 f fd ["number"] (spD K 1 f_is_number) := by
  exact fn_den (N := N_is_number) F sc_is_number (by decide) fun cdv A outer s H E hr => by
    have hu : (A.deeper (envOfC "is_number" (defScope s_is_number) s.heap.objs.size f cdv)).units + 65 < cLine := by have := hr.un; omega
    have hv : (A.deeper (envOfC "is_number" (defScope s_is_number) s.heap.objs.size f cdv)).units + 1 < cLine := by omega
    exact ek_out (K := K) ((PL.b1 (zRet (vAnd (EP.o (fIsi "int" T.isinstance T.int (ha := (vO 0)))) (vOne (vNot (EP.o (fIsi "bool" T.isinstance T.bool (ha := (vO 0))))))))))

/-! is_whole: number 0, low 1, high 2 -/
abbrev s_is_whole : Stmt := topS 19
abbrev N_is_whole : List Str := ["number", "low", "high"]
theorem sc_is_whole : FnScope N_is_whole ["number", "low", "high"] (defScope s_is_whole) := ⟨rfl, rfl, rfl, by decide +kernel, rfl, by decide +kernel, by decide +kernel⟩
def F_is_whole : PL.Env → Option Out := (sRet (eAndB (eA (fun ds => if ds.length = 1 then f_is_number ds else none) (aCons (eVar 0) aNil)) (eAndB (e2 (gB fun i j => decide (i ≤ j)) (eVarO 1) (eVarO 0)) (e2 (gB fun i j => decide (i ≤ j)) (eVarO 0) (eVarO 2)))))
def f_is_whole : List PyData → Option PyData := fnD 3 F_is_whole
theorem ok_is_whole {f : Addr} {fd : FuncData} (F : Fun K "is_whole" "is_whole" s_is_whole f fd) (T : Bt mg) (Cis_number : Cal P w K mg base 1 "is_number" 1 ["number"] f_is_number) : FnOk P w K mg base CX0 2 f fd ["number", "low", "high"] (spD K 3 f_is_whole) := by
  exact fn_den (N := N_is_whole) F sc_is_whole (by decide) fun cdv A outer s H E hr => by
    have hu : (A.deeper (envOfC "is_whole" (defScope s_is_whole) s.heap.objs.size f cdv)).units + 65 < cLine := by have := hr.un; omega
    have hv : (A.deeper (envOfC "is_whole" (defScope s_is_whole) s.heap.objs.size f cdv)).units + 1 < cLine := by omega
    exact ek_out (K := K) ((PL.b1 (zRet (vAnd (EP.o (cal1 Cis_number hr (by decide) (yC (vP 0) yN))) (vAnd (EP.o (cmp kLe (vO 1) (vO 0))) (vOne (cmp kLe (vO 0) (vO 2))))))))

/-! is_name: text 0, letter 1 -/
abbrev s_is_name : Stmt := topS 17
abbrev N_is_name : List Str := ["text", "letter"]
theorem sc_is_name : FnScope N_is_name ["text"] (defScope s_is_name) := ⟨rfl, rfl, rfl, by decide +kernel, rfl, by decide +kernel, by decide +kernel⟩
def F_is_name : PL.Env → Option Out := (sSeq (sIf (tO (tN (tE (e1 (gIsi "str") (eVarO 0)))) (tO (tE (e2 (gB fun i j => decide (i < j)) (eA gLen (aCons (eVarO 0) aNil)) (eC (.int 1)))) (tE (e2 (gB fun i j => decide (j < i)) (eA gLen (aCons (eVarO 0) aNil)) (eC (.int 8)))))) (sRet (eC (.bool false))) sNext)
    (sSeq (sFor (iS (eVarO 0)) (tgN 1) (sIf (tE (e2 (gInS true) (eVarO 1) (eC (.str "abcdefghijklmnopqrstuvwxyz")))) (sRet (eC (.bool false))) sNext))
    (sRet (eC (.bool true)))))
def f_is_name : List PyData → Option PyData := fnD 2 F_is_name
theorem ok_is_name {f : Addr} {fd : FuncData} (F : Fun K "is_name" "is_name" s_is_name f fd) (T : Bt mg) : FnOk P w K mg base CX0 1 f fd ["text"] (spD K 1 f_is_name) := by
  exact fn_den (N := N_is_name) F sc_is_name (by decide) fun cdv A outer s H E hr => by
    have hu : (A.deeper (envOfC "is_name" (defScope s_is_name) s.heap.objs.size f cdv)).units + 65 < cLine := by have := hr.un; omega
    have hv : (A.deeper (envOfC "is_name" (defScope s_is_name) s.heap.objs.size f cdv)).units + 1 < cLine := by omega
    exact ek_out (K := K) ((PL.bC (zIf (EW.tt (wO (tNot_ (tVal (EP.o (fIsi "str" T.isinstance T.str (ha := (vO 0)))))) (wO (tcmp kLt (EP.o (fLen T.len (ha := (xC (vO 0) xN)))) (EP.o cI)) (wO1 (tcmp kGt (EP.o (fLen T.len (ha := (xC (vO 0) xN)))) (EP.o (gInt_ T.MOST_LETTERS))))))) (PL.b1 (zRet cB)) PL.b0)
    (PL.bC (zFor (S := [1]) PassesOwn.never (iSt (vO 0)) (gN 1 sc_is_name.nd) (PL.b1 (zIf (tcmp kNiS (vO 1) (EP.o (gStr_ T.LETTERS))) (PL.b1 (zRet cB)) PL.b0)))
    (PL.b1 (zRet cB)))))

/-! is_pair: pair 0, ahead 1, plot 2, outer 3 -/
abbrev s_is_pair : Stmt := topS 14
abbrev N_is_pair : List Str := ["pair", "ahead", "plot", "outer"]
theorem sc_is_pair : FnScope N_is_pair ["pair", "ahead"] (defScope s_is_pair) := ⟨rfl, rfl, rfl, by decide +kernel, rfl, by decide +kernel, by decide +kernel⟩
def F_is_pair : PL.Env → Option Out := (sSeq (sIf (tO (tN (tE (e1 (gIsi "tuple") (eVarO 0)))) (tE (e2 gNe (eA gLen (aCons (eVarO 0) aNil)) (eC (.int 2))))) (sRet (eC (.bool false))) sNext)
    (sSeq (sAsg (eVar 0) (tgT 2 (tgCons (tgN 2) (tgCons (tgN 3) tgNil))))
    (sSeq (sIf (tO (tN (tE (eA (fun ds => if ds.length = 1 then f_is_name ds else none) (aCons (eVar 2) aNil)))) (tE (e2 (gInL false) (eVarO 2) (eVarO 1)))) (sRet (eC (.bool false))) sNext)
    (sRet (eOrB (e1 (gIsN false) (eVarO 3)) (e2 (gInL false) (eVarO 3) (eVarO 1)))))))
def f_is_pair : List PyData → Option PyData := fnD 4 F_is_pair
theorem ok_is_pair {f : Addr} {fd : FuncData} (F : Fun K "is_pair" "is_pair" s_is_pair f fd) (T : Bt mg) (Cis_name : Cal P w K mg base 1 "is_name" 1 ["text"] f_is_name) : FnOk P w K mg base CX0 2 f fd ["pair", "ahead"] (spD K 2 f_is_pair) := by
  exact fn_den (N := N_is_pair) F sc_is_pair (by decide) fun cdv A outer s H E hr => by
    have hu : (A.deeper (envOfC "is_pair" (defScope s_is_pair) s.heap.objs.size f cdv)).units + 65 < cLine := by have := hr.un; omega
    have hv : (A.deeper (envOfC "is_pair" (defScope s_is_pair) s.heap.objs.size f cdv)).units + 1 < cLine := by omega
    exact ek_out (K := K) ((PL.bC (zIf (EW.tt (wO (tNot_ (tVal (EP.o (fIsi "tuple" T.isinstance T.tuple (ha := (vO 0)))))) (wO1 (tcmp (kNe hu) (EP.o (fLen T.len (ha := (xC (vO 0) xN)))) (EP.o cI))))) (PL.b1 (zRet cB)) PL.b0)
    (PL.bC (zAsg (S := [2, 3]) (vP 0) (gT (gsC (gN 2 sc_is_pair.nd) (gsC (gN 3 sc_is_pair.nd) gs0))))
    (PL.bC (zIf (EW.tt (wO (tNot_ (tVal (EP.o (cal1 Cis_name hr (by decide) (yC (vP 2) yN))))) (wO1 (tcmp (kInL hu) (vO 2) (vO 1))))) (PL.b1 (zRet cB)) PL.b0)
    (PL.b1 (zRet (vOr (EP.o (cIsN (vO 3))) (vOne (cmp (kInL hu) (vO 3) (vO 1))))))))))

/-! is_part: part 0, kind 1, names 2, last 3 -/
abbrev s_is_part : Stmt := topS 16
abbrev N_is_part : List Str := ["part", "kind", "names", "last"]
theorem sc_is_part : FnScope N_is_part ["part", "kind", "names", "last"] (defScope s_is_part) := ⟨rfl, rfl, rfl, by decide +kernel, rfl, by decide +kernel, by decide +kernel⟩
def F_is_part : PL.Env → Option Out := (sSeq (sIf (tE (e2 gEq (eVarO 1) (eC (.str "plot")))) (sRet (e2 (gInL false) (eVarO 0) (eVarO 2))) sNext)
    (sSeq (sIf (tE (e2 gEq (eVarO 1) (eC (.str "name")))) (sRet (eA (fun ds => if ds.length = 1 then f_is_name ds else none) (aCons (eVar 0) aNil))) sNext)
    (sSeq (sIf (tE (e2 gEq (eVarO 1) (eC (.str "number")))) (sRet (eA (fun ds => if ds.length = 3 then f_is_whole ds else none) (aCons (eVar 0) (aCons (e1 gNeg (eC (.int 1000000000000000000))) (aCons (eC (.int 1000000000000000000)) aNil))))) sNext)
    (sRet (eA (fun ds => if ds.length = 3 then f_is_whole ds else none) (aCons (eVar 0) (aCons (eC (.int 0)) (aCons (eVar 3) aNil))))))))
def f_is_part : List PyData → Option PyData := fnD 4 F_is_part
theorem ok_is_part {f : Addr} {fd : FuncData} (F : Fun K "is_part" "is_part" s_is_part f fd) (T : Bt mg) (Cis_name : Cal P w K mg base 1 "is_name" 1 ["text"] f_is_name) (Cis_whole : Cal P w K mg base 2 "is_whole" 3 ["number", "low", "high"] f_is_whole) : FnOk P w K mg base CX0 3 f fd ["part", "kind", "names", "last"] (spD K 4 f_is_part) := by
  exact fn_den (N := N_is_part) F sc_is_part (by decide) fun cdv A outer s H E hr => by
    have hu : (A.deeper (envOfC "is_part" (defScope s_is_part) s.heap.objs.size f cdv)).units + 65 < cLine := by have := hr.un; omega
    have hv : (A.deeper (envOfC "is_part" (defScope s_is_part) s.heap.objs.size f cdv)).units + 1 < cLine := by omega
    exact ek_out (K := K) ((PL.bC (zIf (tcmp (kEq hu) (vO 1) (EP.o cS)) (PL.b1 (zRet (cmp (kInL hu) (vO 0) (vO 2)))) PL.b0)
    (PL.bC (zIf (tcmp (kEq hu) (vO 1) (EP.o cS)) (PL.b1 (zRet (cal1 Cis_name hr (by decide) (yC (vP 0) yN)))) PL.b0)
    (PL.bC (zIf (tcmp (kEq hu) (vO 1) (EP.o cS)) (PL.b1 (zRet (cal1 Cis_whole hr (by decide) (yC (vP 0) (yC (uNeg (EP.o (gInt_ T.MOST_NUMBER))) (yC (gInt_ T.MOST_NUMBER) yN)))))) PL.b0)
    (PL.b1 (zRet (cal1 Cis_whole hr (by decide) (yC (vP 0) (yC cI (yC (vP 3) yN))))))))))

/-! is_row: row 0, names 1, last 2, word 3, shape 4, part 5, kind 6 -/
abbrev s_is_row : Stmt := topS 15
abbrev N_is_row : List Str := ["row", "names", "last", "word", "shape", "part", "kind"]
theorem sc_is_row : FnScope N_is_row ["row", "names", "last"] (defScope s_is_row) := ⟨rfl, rfl, rfl, by decide +kernel, rfl, by decide +kernel, by decide +kernel⟩
def F_is_row : PL.Env → Option Out := (sSeq (sIf (tO (tN (tE (e1 (gIsi "tuple") (eVarO 0)))) (tE (e2 gEq (eA gLen (aCons (eVarO 0) aNil)) (eC (.int 0))))) (sRet (eC (.bool false))) sNext)
    (sSeq (sAsg (e2 gIx (eVarO 0) (eC (.int 0))) (tgN 3))
    (sSeq (sIf (tO (tN (tE (e1 (gIsi "str") (eVarO 3)))) (tE (eNotTabM tab_SHAPES miss_SHAPES (eVarO 3)))) (sRet (eC (.bool false))) sNext)
    (sSeq (sAsg (eTab tab_SHAPES (eVarO 3)) (tgN 4))
    (sSeq (sIf (tE (e2 gNe (eA gLen (aCons (eVarO 0) aNil)) (e2 gAdd (eA gLen (aCons (eVarO 4) aNil)) (eC (.int 1))))) (sRet (eC (.bool false))) sNext)
    (sSeq (sFor (iZt (aCons (eSlT (eVarO 0) (oSome (eC (.int 1))) oNone) (aCons (eVar 4) aNil))) (tgT 2 (tgCons (tgN 5) (tgCons (tgN 6) tgNil))) (sIf (tN (tE (eA (fun ds => if ds.length = 4 then f_is_part ds else none) (aCons (eVar 5) (aCons (eVar 6) (aCons (eVar 1) (aCons (eVar 2) aNil))))))) (sRet (eC (.bool false))) sNext))
    (sRet (eC (.bool true)))))))))
def f_is_row : List PyData → Option PyData := fnD 7 F_is_row
theorem ok_is_row {f : Addr} {fd : FuncData} (F : Fun K "is_row" "is_row" s_is_row f fd) (T : Bt mg) {pSHAPES : Addr} (TB_SHAPES : TabOk K w pSHAPES tab_SHAPES) (low_SHAPES : (pSHAPES == sysModules) = false) (no_SHAPES : TabNo K w pSHAPES miss_SHAPES) (mT_SHAPES : mg "SHAPES" = some (.ref pSHAPES)) (Cis_part : Cal P w K mg base 3 "is_part" 4 ["part", "kind", "names", "last"] f_is_part) : FnOk P w K mg base CX0 4 f fd ["row", "names", "last"] (spD K 3 f_is_row) := by
  exact fn_den (N := N_is_row) F sc_is_row (by decide) fun cdv A outer s H E hr => by
    have hu : (A.deeper (envOfC "is_row" (defScope s_is_row) s.heap.objs.size f cdv)).units + 65 < cLine := by have := hr.un; omega
    have hv : (A.deeper (envOfC "is_row" (defScope s_is_row) s.heap.objs.size f cdv)).units + 1 < cLine := by omega
    exact ek_out (K := K) ((PL.bC (zIf (EW.tt (wO (tNot_ (tVal (EP.o (fIsi "tuple" T.isinstance T.tuple (ha := (vO 0)))))) (wO1 (tcmp (kEq hu) (EP.o (fLen T.len (ha := (xC (vO 0) xN)))) (EP.o cI))))) (PL.b1 (zRet cB)) PL.b0)
    (PL.bC (zAsg (ixx (vO 0) (EP.o cI)) (gN (S := [3]) 3 sc_is_row.nd))
    (PL.bC (zIf (EW.tt (wO (tNot_ (tVal (EP.o (fIsi "str" T.isinstance T.str (ha := (vO 3)))))) (wO1 (tNTbM TB_SHAPES low_SHAPES no_SHAPES mT_SHAPES (vO 3))))) (PL.b1 (zRet cB)) PL.b0)
    (PL.bC (zAsg (eTb TB_SHAPES mT_SHAPES (vO 3)) (gN (S := [4]) 4 sc_is_row.nd))
    (PL.bC (zIf (tcmp (kNe hu) (EP.o (fLen T.len (ha := (xC (vO 0) xN)))) (EP.o (bAdd (EP.o (fLen T.len (ha := (xC (vO 4) xN)))) (EP.o cI)))) (PL.b1 (zRet cB)) PL.b0)
    (PL.bC (zFor (S := [5, 6]) PassesOwn.never (iZt_ T.zip (yC (slT (vO 0) (qS (EP.o cI)) qN) (yC (vP 4) yN))) (gT (gsC (gN 5 sc_is_row.nd) (gsC (gN 6 sc_is_row.nd) gs0))) (PL.b1 (zIf (tNot_ (tVal (EP.o (cal1 Cis_part hr (by decide) (yC (vP 5) (yC (vP 6) (yC (vP 1) (yC (vP 2) yN)))))))) (PL.b1 (zRet cB)) PL.b0)))
    (PL.b1 (zRet cB)))))))))

/-! need_plots: plots 0, names 1, at 2, pair 3 -/
abbrev s_need_plots : Stmt := topS 12
abbrev N_need_plots : List Str := ["plots", "names", "at", "pair"]
theorem sc_need_plots : FnScope N_need_plots ["plots"] (defScope s_need_plots) := ⟨rfl, rfl, rfl, by decide +kernel, rfl, by decide +kernel, by decide +kernel⟩
def F_need_plots : PL.Env → Option Out := (sSeq (sIf (tO (tN (tE (e1 (gIsi "list") (eVarO 0)))) (tE (e2 (gB fun i j => decide (j < i)) (eA gLen (aCons (eVarO 0) aNil)) (eC (.int 12))))) sBad sNext)
    (sSeq (sOwn (nLst aNil) 1)
    (sSeq (sFor (iEn (aCons (eVar 0) aNil)) (tgT 2 (tgCons (tgN 2) (tgCons (tgN 3) tgNil))) (sSeq (sIf (tN (tE (eA (fun ds => if ds.length = 2 then (f_is_pair ds).bind fun d => if noList d then some d else none else none) (aCons (eVarO 3) (aCons (eVarO 1) aNil))))) sBad sNext)
    (sApp 1 (e2 gIx (eVarO 3) (eC (.int 0))))))
    (sRetO 1))))
def f_need_plots : List PyData → Option (List PyData) := fnN 4 F_need_plots
theorem ok_need_plots {f : Addr} {fd : FuncData} (F : Fun K "need_plots" "need_plots" s_need_plots f fd) (T : Bt mg) (Cis_pair : Cal P w K mg base 2 "is_pair" 2 ["pair", "ahead"] f_is_pair) : FnOk P w K mg base CX0 3 f fd ["plots"] (spN K 1 f_need_plots) := by
  exact fn_denN (N := N_need_plots) F sc_need_plots (by decide) fun cdv A outer s H E hr => by
    have hu : (A.deeper (envOfC "need_plots" (defScope s_need_plots) s.heap.objs.size f cdv)).units + 65 < cLine := by have := hr.un; omega
    have hv : (A.deeper (envOfC "need_plots" (defScope s_need_plots) s.heap.objs.size f cdv)).units + 1 < cLine := by omega
    exact ek_out (K := K) ((PL.bC (zIf (EW.tt (wO (tNot_ (tVal (EP.o (fIsi "list" T.isinstance T.list (ha := (vO 0)))))) (wO1 (tcmp kGt (EP.o (fLen T.len (ha := (xC (vO 0) xN)))) (EP.o (gInt_ T.MOST_PLOTS)))))) (PL.b1 zBad) PL.b0)
    (PL.bC (zOwn 1 sc_need_plots.nd (dLst yN))
    (PL.bC (zFor (S := [2, 3]) PassesOwn.never (iEn_ T.enumerate (yC (vP 0) yN)) (gT (gsC (gN 2 sc_need_plots.nd) (gsC (gN 3 sc_need_plots.nd) gs0))) (PL.bC (zIf (tNot_ (tVal (EP.o (cal1X Cis_pair hr (by decide) (xC (vO 3) (xC (vO 1) xN)))))) (PL.b1 zBad) PL.b0)
    (PL.b1 (zApp 1 (vO 1) (ixx (vO 3) (EP.o cI))))))
    (PL.b1 (zRetO 1 (vO 1)))))))

/-! need_rows: names 0, rows 1, at 2, row 3 -/
abbrev s_need_rows : Stmt := topS 13
abbrev N_need_rows : List Str := ["names", "rows", "at", "row"]
theorem sc_need_rows : FnScope N_need_rows ["names", "rows"] (defScope s_need_rows) := ⟨rfl, rfl, rfl, by decide +kernel, rfl, by decide +kernel, by decide +kernel⟩
def F_need_rows : PL.Env → Option Out := (sSeq (sIf (tO (tN (tE (e1 (gIsi "list") (eVarO 1)))) (tE (e2 (gB fun i j => decide (j < i)) (eA gLen (aCons (eVarO 1) aNil)) (eC (.int 60))))) sBad sNext)
    (sSeq (sFor (iEn (aCons (eVar 1) aNil)) (tgT 2 (tgCons (tgN 2) (tgCons (tgN 3) tgNil))) (sIf (tN (tE (eA (fun ds => if ds.length = 3 then f_is_row ds else none) (aCons (eVar 3) (aCons (eVar 0) (aCons (eA gLen (aCons (eVarO 1) aNil)) aNil)))))) sBad sNext))
    (sRet (eC (.bool true)))))
def f_need_rows : List PyData → Option PyData := fnD 4 F_need_rows
theorem ok_need_rows {f : Addr} {fd : FuncData} (F : Fun K "need_rows" "need_rows" s_need_rows f fd) (T : Bt mg) (Cis_row : Cal P w K mg base 4 "is_row" 3 ["row", "names", "last"] f_is_row) : FnOk P w K mg base CX0 5 f fd ["names", "rows"] (spD K 2 f_need_rows) := by
  exact fn_den (N := N_need_rows) F sc_need_rows (by decide) fun cdv A outer s H E hr => by
    have hu : (A.deeper (envOfC "need_rows" (defScope s_need_rows) s.heap.objs.size f cdv)).units + 65 < cLine := by have := hr.un; omega
    have hv : (A.deeper (envOfC "need_rows" (defScope s_need_rows) s.heap.objs.size f cdv)).units + 1 < cLine := by omega
    exact ek_out (K := K) ((PL.bC (zIf (EW.tt (wO (tNot_ (tVal (EP.o (fIsi "list" T.isinstance T.list (ha := (vO 1)))))) (wO1 (tcmp kGt (EP.o (fLen T.len (ha := (xC (vO 1) xN)))) (EP.o (gInt_ T.MOST_ROWS)))))) (PL.b1 zBad) PL.b0)
    (PL.bC (zFor (S := [2, 3]) PassesOwn.never (iEn_ T.enumerate (yC (vP 1) yN)) (gT (gsC (gN 2 sc_need_rows.nd) (gsC (gN 3 sc_need_rows.nd) gs0))) (PL.b1 (zIf (tNot_ (tVal (EP.o (cal1 Cis_row hr (by decide) (yC (vP 3) (yC (vP 0) (yC (fLen T.len (ha := (xC (vO 1) xN))) yN))))))) (PL.b1 zBad) PL.b0)))
    (PL.b1 (zRet cB)))))

/-! need: plots 0, rows 1, names 2 -/
abbrev s_need : Stmt := topS 11
abbrev N_need : List Str := ["plots", "rows", "names"]
theorem sc_need : FnScope N_need ["plots", "rows"] (defScope s_need) := ⟨rfl, rfl, rfl, by decide +kernel, rfl, by decide +kernel, by decide +kernel⟩
def F_need : PL.Env → Option Out := (sSeq (sAsg (eL (fun env => ((aCons (eVar 0) aNil) env).bind fun ds => if ds.length = 1 then f_need_plots ds else none)) (tgN 2))
    (sRet (eA (fun ds => if ds.length = 2 then f_need_rows ds else none) (aCons (eVar 2) (aCons (eVar 1) aNil)))))
def f_need : List PyData → Option PyData := fnD 3 F_need
theorem ok_need {f : Addr} {fd : FuncData} (F : Fun K "need" "need" s_need f fd) (T : Bt mg) (Cneed_plots : CalN P w K mg base 3 "need_plots" 1 ["plots"] f_need_plots) (Cneed_rows : Cal P w K mg base 5 "need_rows" 2 ["names", "rows"] f_need_rows) : FnOk P w K mg base CX0 6 f fd ["plots", "rows"] (spD K 2 f_need) := by
  exact fn_den (N := N_need) F sc_need (by decide) fun cdv A outer s H E hr => by
    have hu : (A.deeper (envOfC "need" (defScope s_need) s.heap.objs.size f cdv)).units + 65 < cLine := by have := hr.un; omega
    have hv : (A.deeper (envOfC "need" (defScope s_need) s.heap.objs.size f cdv)).units + 1 < cLine := by omega
    exact ek_out (K := K) ((PL.bC (zAsg (EN.p (cal1N Cneed_plots hr (by decide) (yC (vP 0) yN))) (gN (S := [2]) 2 sc_need.nd))
    (PL.b1 (zRet (cal1 Cneed_rows hr (by decide) (yC (vP 2) (yC (vP 1) yN)))))))

end
end K01
/-! An own error class over ValueError (by way of own classes) whose __init__ begins with super().__init__(e). -/
namespace PX
open PySem PySem.Spec PyProof.Rows L2 NdefX PySem.HandSPX
section
open PySem.W PySem.Calls
variable {prog : Program} {w : World} {A : Around} {E : Value → Shared → Prop} {h : Heap} {g : Array GenState} {d : Drawn} {t : Nat} {os : OsState}
variable {nm q : Str} {C N : Addr} {bs bm : List Value} {hdct : Bool} {sn : List Str} {sub : List Value} {ab : Bool} {col : Option Bool} {dd : Option Addr} {k0 k1 k2 k3 k5 : Option Value}
/-- the bound ValueError.__init__ called -/
theorem call_mw {u e t0 : Addr} {rest : List Value} {Q : Value → Shared → Prop}
    (hC : h.get? C = some (excClassObj nm q C N bs bm hdct sn sub ab col dd k0 k1 k2 k3 k5 "ValueError.__new__")) (he : h.get? e = some (excO C t0)) (hu : h.get? u = some (kxs_mw "ValueError.__init__" e)) (hrest : rest.length ≤ sizeLine)
    (hq : ∀ h' t1, (∀ b o, b ≠ e → h.get? b = some o → h'.get? b = some o) → h'.get? e = some (excO C t1) → Q .none ⟨h', g, d, t, os⟩) :
    wpAny (model prog w) A (call (.ref u) rest) Q E ⟨h, g, d, t, os⟩ := by
  refine wpAny_call (codeAny_of_tree ?_)
  show wpAny _ A.in1 (callAny (.ref u) ⟨rest, []⟩) _ _ _
  simp only [callAny]
  refine wpAny_bind (wpAny_load hu ?_)
  simp only [kxs_mw, show (Value.type "method-wrapper" == Value.type "method" || Value.type "method-wrapper" == Value.type "builtin_function_or_method" || Value.type "method-wrapper" == Value.type "method-wrapper") = true by decide, if_true]
  refine W.KFB.if_so (by decide) ?_
  refine wpAny_bind (check_bound_init F.excBase_ValueError.toExcCallFacts hC he rfl ?_)
  refine wpAny_bind (wpAny_pure (wpAny_pure ?_))
  refine ⟨Code.quiet_builtin _ (by decide +kernel), codeAny_builtin F.excBase_ValueError.initEntry ?_⟩
  rw [Around.under_plainId F.excBase_ValueError.init.plain _]
  wp_walk
  refine hq _ h.objs.size (fun b o hb ho => ?_) ?_
  · rw [Heap.get?_update_other _ _ (Ne.symm hb)]
    exact Heap.get?_push_of_some _ ho
  · rw [Heap.get?_update_self _ (Heap.get?_push_of_some _ he) rfl]
    rfl
end

/-- what the written part tells of the class at C and of its __init__ at f -/
structure Sup (P : Program) (K : PySem.W.Frag) (C cc cda : Addr) (qual : Str) : Prop where
  oex : OexC K C
  hcd : PySem.W.codeIn K (.ref cda) qual = true
  code : ∃ (ccl : Value) (cdd : Option Addr) (vs : Array Value) (ccs : Array (Option Value)) (file : Str) (tf : Tok), K.lookup cda = some ⟨ccl, cdd, .fields vs, ccs⟩ ∧ vs[2]? = some (.str file tf) ∧ ((P.main.file : Str) == file) = true
  cell : ∃ (cl : Value) (cld : Option Addr) (csl : Array (Option Value)), K.lookup cc = some ⟨cl, cld, .cell (some (.ref C)), csl⟩
  sub : PySem.W.mroIn K C (.ref C) = some true
  sup : PySem.W.nsIn K mainGlobals "super" = some none
  top : (P.main.scope.names.lookup ("super" : Str)).isSome = false
  opq : PySem.W.nsIn K cStatics "thirdparty.any" = some none
  ini : PySem.W.ks_superIn K C C "__init__" = some (some (.builtin "ValueError.__init__"))
  subV : PySem.W.subIn K (.ref C) (.type "ValueError") = some true

section
variable {P : Program} {w : World} {K : PySem.W.Frag} {mg : Str → Option Value} {base : Heap}
abbrev nfS (name qual : Str) (params : Arguments) (body : List Stmt) (scope : Scope) (cc cda : Addr) : NF := ⟨name, qual, params, body, scope, [("__class__", cc)], cda⟩
theorem fn_sup {CX : CXT} {k : Nat} {f C cc cda : Addr} {name qual : Str} {params : Arguments} {e : Expr} {rest : List Stmt} {scope : Scope} {kV doc pm ct oc : Value} {an od : Option Addr} {osl : Array (Option Value)} {a0 : Arg} {N ps : List Str} {sp : Sp} {p0 p1 p2 p3 p4 : Pos}
    (T : Sup P K C cc cda qual)
    (lk : K.lookup f = some ⟨oc, od, .func (PySem.W.ksFn name qual params (.Expr (.Call (.Attribute (.Call (.Name "super" p0) [] [] p1) "__init__" p2) [e] [] p3) p4 :: rest) scope .none kV doc pm an (.ref cda) ct cc), osl⟩)
    (S : NScope N ps ["__class__"] scope) (hks : scope.names.lookup ("super" : Str) = some .globalImplicit) (hp : (params.posonlyargs ++ params.args).head? = some a0) (hp0 : N[0]? = some a0.arg) (hka : scope.names.lookup a0.arg = some .local)
    (hbt : bootBuiltins "super" = some (.type "super"))
    (len : ∀ vs H Q E, sp vs H Q E → vs.length = ps.length)
    (hst : ∀ env : Env, starEach [e] env = (false, eval e env) :: starEach [] env := by intro _; rfl)
    (hsw : ∀ env : Env, swapsWith (.Call (.Attribute (.Call (.Name "super" p0) [] [] p1) "__init__" p2) [e] [] p3) none p4.line env = pure false := by intro _; rfl)
    (hev : ∀ env : Env, ∃ pl : Sem Bool, eval (.Call (.Attribute (.Call (.Name "super" p0) [] [] p1) "__init__" p2) [e] [] p3) env = (do
      let ov ← attributeBase (.Call (.Name "super" p0) [] [] p1) "__init__" env (eval (.Call (.Name "super" p0) [] [] p1) env)
      standAt p2.atName
      let (f, first) ← holding [ov] (getMethod ov "__init__" pl)
      callWith p3 f first (backTo p3 (starEach [e] env)) []) := by exact fun _ => ⟨_, rfl⟩)
    (hbody : ∀ (A : Around) (outer : List Env) (s : Shared) (H : Hp) (vs : List V) (Q : VK) (E : XK), Room k (A.deeper (envF (nfS name qual params rest scope cc cda) f s.heap.objs.size)) → sp vs H Q E →
      ∃ (te : TE) (t : TS) (a : Addr), PE (ncx CX P w K mg base N (nfS name qual params rest scope cc cda) f A outer s H E) e te ∧ PSs (ncx CX P w K mg base N (nfS name qual params rest scope cc cda) f A outer s H E) rest t ∧
        vs[0]? = some (.ref a) ∧ H a = some (exo a C none) ∧
        te (startF N vs [some (.ref C)]) H fun x H1 => H1 a = some (exo a C none) ∧ t { nx := fun _ H' => Q .non H', rt := Q } (startF N vs [some (.ref C)]) H1) :
    FnOk P w K mg base CX (k + 1) f (PySem.W.ksFn name qual params (.Expr (.Call (.Attribute (.Call (.Name "super" p0) [] [] p1) "__init__" p2) [e] [] p3) p4 :: rest) scope .none kV doc pm an (.ref cda) ct cc) ps sp := by
  refine ⟨len, fun A outer s H args us vs Q E hr e0 hb r hsp => ?_⟩
  have hl := len _ _ _ _ hsp
  have KX : K.In s.heap := e0.mod.kin.keeps fun b o e => (e0.bs b o e).1
  have lim : s.heap.NoLimit := e0.mod.nolimit.keeps fun b o e => (e0.bs b o e).1
  obtain ⟨cl, cld, csl, hcell⟩ := T.cell
  obtain ⟨ccl, cdd, cvs, ccs, file, tf, hcode, hv2, hfile⟩ := T.code
  have hkc : scope.names.lookup ("__class__" : Str) = some .free := S.frk _ (List.mem_singleton.mpr rfl)
  have hlook : ∀ y c, ([("__class__", cc)] : List (Str × Addr)).lookup y = some c → y = "__class__" ∧ c = cc := fun y c h => by
    have z := PySem.mem_of_lookup h
    rw [List.mem_singleton] at z
    injection z with z1 z2
    exact ⟨z1, z2⟩
  have hget : ([("__class__", cc)] : List (Str × Addr)).lookup ("__class__" : Str) = some cc := by simp [List.lookup]
  have baseC := e0.mod.kin _ _ hcell
  have CA : CellsAt (nfS name qual params rest scope cc cda).cl ["__class__"] [some (.ref C)] s.heap H := by
    refine ⟨rfl, fun y c h => ?_, fun x y c h1 h2 => ?_, fun i y h => ?_⟩
    · obtain ⟨_, rfl⟩ := hlook y c h
      exact ⟨(e0.bs _ _ baseC).2, _, _, (e0.bs _ _ baseC).1, rfl⟩
    · rw [(hlook x c h1).1, (hlook y c h2).1]
    · match i, h with
      | 0, h =>
        cases h
        refine ⟨cc, hget, fun v hv => ?_⟩
        cases hv
        exact ⟨.ref C, rfl, _, (e0.bs _ _ baseC).1, rfl⟩
      | i + 1, h => cases h
  have hloc : ∀ y ∈ ps.zip us, scope.names.lookup y.1 = some .local := fun ⟨n, _⟩ hy => S.par n (List.of_mem_zip hy).1
  refine ks_codeAny_call_defAt (fd := PySem.W.ksFn name qual params (.Expr (.Call (.Attribute (.Call (.Name "super" p0) [] [] p1) "__init__" p2) [e] [] p3) p4 :: rest) scope .none kV doc pm an (.ref cda) ct cc) hr.depth (KX _ _ lk) rfl lim (PySem.W.codeRec_of KX T.hcd) rfl hb S.nocell hloc (fun h₁ hns kp => ?_) S.co S.gen S.kind
  obtain ⟨te, t, a, he, ht, hv0, hHa, hq⟩ := hbody A outer s H vs Q E (hr.deeper _) hsp
  have I : Inv (ncx CX P w K mg base N (nfS name qual params rest scope cc cda) f A outer s H E) [] (startF N vs [some (.ref C)]) H { s with heap := h₁, toks := s.toks + (ps.zip us).length } := inv_startN S hr.hd e0 hl r CA hns kp
  generalize hσ : startF N vs [some (.ref C)] = σ at I hq
  have hσ0 : σ[0]? = some (some (.ref a)) := by
    rw [← hσ]
    unfold startF
    rw [List.getElem?_append_left (by rw [List.length_map]; exact (List.getElem?_eq_some_iff.mp hv0).1), List.getElem?_map, hv0]
    rfl
  generalize hX : ncx CX P w K mg base N (nfS name qual params rest scope cc cda) f A outer s H E = X at I he ht
  have hXe : X.env = PySem.W.ksEnv qual scope s.heap.objs.size f (.ref cda) cc := by rw [← hX]; rfl
  have hXK : X.K = K := by rw [← hX]; rfl
  have hXp : X.prog = P := by rw [← hX]; rfl
  have hXw : X.w = w := by rw [← hX]; rfl
  have hXA : X.A = A.deeper (PySem.W.ksEnv qual scope s.heap.objs.size f (.ref cda) cc) := by rw [← hX]; rfl
  have hXN : X.N = N := by rw [← hX]; rfl
  have hXmg : X.mg = mg := by rw [← hX]; rfl
  have hXx : X.xe = fun e s' => wpAny (model P w) (A.deeper (PySem.W.ksEnv qual scope s.heap.objs.size f (.ref cda) cc)) (leaving (PySem.W.ksEnv qual scope s.heap.objs.size f (.ref cda) cc) e) (fun _ s'' => CX outer H s E e s'') (fun e' s'' => CX outer H s E e' s'') s' := by rw [← hX]; rfl
  have hXC : ∀ {σ' : L2.St} {H' : Hp} {s' : Shared} {v : V} {u : Value}, Inv X [] σ' H' s' → RelV v u → Q v H' → CE outer P w H s Q u s' := fun {σ' H' s' v u} J rv q => by
    subst hX
    exact ⟨v, H', J.os, J.bare, J.base, J.hok, rv, q⟩
  refine PySem.ks_wpAt_mono (Q := SP X [] { nx := fun _ H' => Q .non H', rt := Q }) (E := X.xe) ?main (fun fl s' hs => ?fin) (fun e s' hs => by rw [hXx] at hs; exact hs)
  case fin =>
    cases fl with
    | ret u =>
      obtain ⟨v, σ', H', J, rv, q⟩ := hs
      exact hXC J rv q
    | next =>
      obtain ⟨σ', H', J, q⟩ := hs
      exact hXC (v := V.non) (u := Value.none) J rfl q
    | brk =>
      obtain ⟨_, _, _, q⟩ := hs
      exact False.elim q
    | cont =>
      obtain ⟨_, _, _, q⟩ := hs
      exact False.elim q
  generalize ({ s with heap := h₁, toks := s.toks + (ps.zip us).length } : Shared) = s1 at I
  obtain ⟨pl, hpl⟩ := hev (PySem.W.ksEnv qual scope s.heap.objs.size f (.ref cda) cc)
  refine PySem.ks_wpAt_execs_cons (PySem.ks_wpAt_Expr_any (PySem.ks_wpAt_MethodCall ?_ hpl) (by show interactive (PySem.W.ksEnv qual scope s.heap.objs.size f (.ref cda) cc) = false; simp [interactive, S.kind]) (hsw _))
  have X1 : K.In s1.heap := hXK ▸ I.kIn
  refine PySem.ks_wpAt_super_base (env := PySem.W.ksEnv qual scope s.heap.objs.size f (.ref cda) cc) hks hkc (by decide) rfl (X1 _ _ lk) rfl hp rfl (X1 _ _ hcode) rfl hv2 hfile T.top ?_
  -- super
  obtain ⟨mb, hmb, hbv⟩ := I.mod.blt
  refine PySem.W.ks_loadName_global S.kind hks (Calls.loadGlobal_builtin (env := PySem.W.ksEnv qual scope s.heap.objs.size f (.ref cda) cc) (I.mod.glob.keeps I.bk) (by rw [hXmg]; exact PySem.W.mg_none_of e0.mod.kin e0.mod.glob T.sup) (hmb.keeps I.bk) ((hbv _ (by decide +kernel)).trans hbt) ⟨rfl, ?_⟩)
  -- __class__
  refine wpAny_loadName_free S.kind hkc rfl ⟨_, X1 _ _ hcell, rfl⟩ ?_
  -- self
  obtain ⟨m, hm, hlk⟩ := id I.loc
  obtain ⟨u, ru, hu⟩ := hlk 0 a0.arg (.ref a) (by rw [hXN]; exact hp0) hσ0 (by rw [hXe]; exact .inl hka)
  cases ru
  have hma : m a0.arg = some (.ref a) := by
    rcases hu with ⟨_, z⟩ | ⟨z, _⟩
    · exact z
    · rw [hXe] at z
      have hka' : (PySem.W.ksEnv qual scope s.heap.objs.size f (.ref cda) cc).kindOf a0.arg = some NameKind.local := hka
      rw [hka'] at z
      rcases z with z | z <;> cases z
  rw [hXe] at hm
  refine wpAny_loadName_local S.kind hka hm hma ?_
  obtain ⟨cnm, cq, cN, cbs, cbm, csn, csub, cab, ccol, cddd, ck0, ck1, ck2, ck3, ck5, hC, hbm⟩ := T.oex.cls
  obtain ⟨t1, ho⟩ := exo_at I.hok hHa
  obtain ⟨hp1, g1, d1, tk1, os1⟩ := s1
  have hCh := X1 _ _ hC
  refine PySem.ks_wpAny_isType_cls hCh rfl ⟨rfl, ?_⟩
  refine PySem.ks_wpAny_call_super hCh rfl ho rfl (fun c z => by cases z) (PySem.W.looks_mroIn X1 T.sub) (fun h2 e2 k2 => ?_)
  have I2 := I.kept (t' := tk1) k2
  have X2 : K.In h2 := hXK ▸ I2.kIn
  -- the method
  have hcl : PySem.W.clsIn K C = some { name := cnm, bases := cbs, mro := .ref C :: cbm, ns := cN, qualname := cq, hasDict := true, slotNames := csn, subclasses := csub, abstract := cab, collection := ccol, hasDel := false } := by unfold PySem.W.clsIn; rw [hC] <;> rfl
  have hal : PySem.W.alongIn K "__init__" (((.ref C :: cbm).dropWhile (· != .ref C)).drop 1) = some (some (.builtin "ValueError.__init__")) := by
    have z := T.ini
    unfold PySem.W.ks_superIn at z
    rw [hcl] at z
    exact z
  have IA : PySem.W.InstAt h2 a ({ cls := .ref C, dict := none, data := .fields #[.ref t1, .none, .none, .none, .bool false, .none] } : Obj) C none := ⟨k2 _ _ ho, rfl, rfl, trivial⟩
  refine PySem.W.kxs_getMethod PySem.W.kxs_ValueError e2 (PySem.W.looks_opaque X2 T.opq) (l₀ := .ref C :: cbm) (fun A Q E s k q => wpAny_bind ((PySem.W.looks_clsIn X2 hcl) A _ E s k (wpAny_pure q))) rfl X2 hal (IA.type.andThen (PySem.W.looks_subIn X2 T.subV)) (PySem.W.ks_ne X2 IA hcl) (by decide) ?_
  have k3 : ∀ b o, h2.get? b = some o → (h2.push (PySem.W.kxs_mw "ValueError.__init__" a)).get? b = some o := fun b o z => Heap.get?_push_of_some _ z
  have I3 := I2.kept (t' := tk1 + 1) k3
  have hu3 : (h2.push (PySem.W.kxs_mw "ValueError.__init__" a)).get? h2.objs.size = some (PySem.W.kxs_mw "ValueError.__init__" a) := Heap.get?_push_at rfl rfl
  have hn3 : H h2.objs.size = none := I2.hok.fresh (Nat.le_refl _)
  -- the pinned wrapper
  have I4 : Inv X [(h2.objs.size, PySem.W.kxs_mw "ValueError.__init__" a)] σ H ⟨h2.push (PySem.W.kxs_mw "ValueError.__init__" a), g1, d1, tk1 + 1, os1⟩ := by
    refine I3.pins_of fun p hp => ?_
    rw [List.mem_singleton.mp hp]
    refine ⟨hu3, hn3, Ne.symm (Nat.ne_of_lt I2.lt), I2.nofs (Nat.le_refl _), fun v z => by cases z⟩
  rw [hst]
  refine PySem.W.kxs_callWith (i := "ValueError.__init__") (x := a) rfl ?_
  refine Calls.evalArgs_plain ?_
  refine Calls.spliced_cons ?_
  have run := he.run _ _ σ H (fun x H1 => H1 a = some (exo a C none) ∧ t { nx := fun _ H' => Q .non H', rt := Q } σ H1) I4 hq
  rw [hXp, hXw, hXA, hXe] at run
  refine thn run fun u5 s5 hs5 => ?_
  obtain ⟨v5, H5, I5, r5, h5a, h5t⟩ := hs5
  refine Calls.spliced_nil ?_
  have hu5 := (I5.pin (h2.objs.size, PySem.W.kxs_mw "ValueError.__init__" a) (by simp)).1
  refine ⟨hu5, ?_⟩
  have I6 : Inv X [] σ H5 s5 := I5.pins_of fun p hp => by cases hp
  obtain ⟨t5, ho5⟩ := exo_at I6.hok h5a
  have X5 : K.In s5.heap := hXK ▸ I6.kIn
  obtain ⟨hp5, g5, d5, tk5, os5⟩ := s5
  refine call_mw (X5 _ _ hC) ho5 hu5 (show 1 ≤ sizeLine by decide) fun h' t6 k6 hx6 => ?_
  have J := I6.write (t' := tk5) (x := a) (e := a) (o := exo a C none) (by rw [h5a]; exact True.intro) (.inl rfl) k6 ⟨_, hx6⟩ (exo_ok hx6)
  have eu : upd H5 a (exo a C none) = H5 := by
    funext b
    by_cases hb : b = a
    · rw [hb, upd_same, h5a]
    · rw [upd_ne hb]
  rw [eu] at J
  refine wpAt_of_wpAny ?_
  have fin := ht.run [] _ σ H5 { nx := fun _ H' => Q .non H', rt := Q } J h5t
  rw [hXp, hXw, hXA, hXe] at fin
  exact fin
end
end PX
/-! Pieces that may raise: what they give, or the error that they let out. -/
namespace PX
open PySem PySem.Spec PyProof.Rows L2 PL
/-- an error of the class at C: with a field at (d: none or a number), or without fields -/
inductive ErrS where | at_ (C : Addr) (d : PyData) | bare (C : Addr)
def ErrOk : ErrS → Value → Option Addr → Hp → Prop
  | .at_ C d => fun cls dO H => cls = .ref C ∧ ∃ dx v, dO = some dx ∧ H dx = some (.xd [("at", v)]) ∧ ((v = .non ∧ d = .none) ∨ ∃ i, v = .int i ∧ d = .int i)
  | .bare C => fun cls dO _ => cls = .ref C ∧ dO = none
/-- what an expression gives -/
inductive RX where | val (d : PyData) | any | er (e : ErrS)
/-- what a statement gives -/
inductive OutX where | ok (o : Out) | any | er (e : ErrS) (env : PL.Env)
def PostX (K : PySem.W.Frag) (base : Hp) (O0 : Hid) (B : Hp) (D : Ends) (W : WX) : OutX → Prop
  | .ok o => Post K base O0 B D o
  | .any => ∀ v H, Ex base H → Ex B (vis O0 H) → D.rt v H
  | .er e env => ∀ cls dO O σ H, Ex B (vis O H) → Sat K base O0 O σ H env → ErrOk e cls dO H → W cls dO σ H
def RetX (K : PySem.W.Frag) (O : Hid) (H : Hp) (σ : L2.St) (W : WX) (Q : VK) : RX → Prop
  | .val d => ∀ v H', Ex H H' → Ex (vis O H) (vis O H') → Rp K (vis O H') v d → Q v H'
  | .any => ∀ v H', Ex H H' → Ex (vis O H) (vis O H') → Q v H'
  | .er e => ∀ cls dO H', Ex H H' → Ex (vis O H) (vis O H') → ErrOk e cls dO H' → W cls dO σ H'
def DenX (K : PySem.W.Frag) (ts : WX → TS) (F : PL.Env → Option OutX) : Prop := ∀ base O0 O σ H env o (D : Ends) (W : WX), Sat K base O0 O σ H env → F env = some o → PostX K base O0 (vis O H) D W o → ts W D σ H
def DenPX (K : PySem.W.Frag) (te : WX → TE) (f : PL.Env → Option RX) : Prop := ∀ base O0 O σ H env r (W : WX), Sat K base O0 O σ H env → f env = some r → ∀ Q : VK, RetX K O H σ W Q r → te W σ H Q
/-- an expression, a statement, a block -/
structure XE_ (K : PySem.W.Frag) (X : Cx) (e : Expr) (te : WX → TE) (f : PL.Env → Option RX) : Prop where
  pe : ∀ W, Takes X W → PE X e (te W)
  de : DenPX K te f
structure XS (K : PySem.W.Frag) (X : Cx) (st : Stmt) (ts : WX → TS) (F : PL.Env → Option OutX) : Prop where
  pe : ∀ W, Takes X W → PS X st (ts W)
  de : DenX K ts F
structure XB (K : PySem.W.Frag) (X : Cx) (st : List Stmt) (ts : WX → TS) (F : PL.Env → Option OutX) : Prop where
  pe : ∀ W, Takes X W → PSs X st (ts W)
  de : DenX K ts F
theorem PS_nox {X : Cx} {st : Stmt} {t : TS} (h : PS X.nox st t) : PS X st t := ⟨fun pins s σ H D I hw =>
  wpAny_mono (h.run pins s σ H D (I.wish _) hw) (fun _ _ z => z.unwish) fun _ _ z => False.elim z⟩
section
variable {K : PySem.W.Frag} {base : Hp} {O0 O : Hid} {σ : L2.St} {H : Hp} {env : PL.Env} {D : Ends} {W : WX}
theorem PostX.mono {B B' : Hp} (e : Ex B B') {o : OutX} (h : PostX K base O0 B D W o) : PostX K base O0 B' D W o := by
  cases o with
  | ok o => exact Post.mono e h
  | any => exact fun v H x y => h v H x (e.trans y)
  | er er en => exact fun cls dO O σ H x S z => h cls dO O σ H (e.trans x) S z
def lft (F : PL.Env → Option Out) : PL.Env → Option OutX := fun env => (F env).map .ok
theorem denx_of {ts : TS} {F : PL.Env → Option Out} (h : DenS K ts F) : DenX K (fun _ => ts) (lft F) := by
  intro base O0 O σ H env o D W S e P
  unfold lft at e
  cases k : F env with
  | none => rw [k] at e; cases e
  | some o1 =>
    rw [k] at e
    cases e
    exact h base O0 O σ H env o1 D S k P
def xSeq (F G : PL.Env → Option OutX) : PL.Env → Option OutX := fun env => (F env).bind fun
  | .ok (.nx e) => G e
  | o => some o
theorem denx_seq {ts tu : WX → TS} {F G : PL.Env → Option OutX} (h1 : DenX K ts F) (h2 : DenX K tu G) : DenX K (fun W => tSeq (ts W) (tu W)) (xSeq F G) := by
  intro base O0 O σ H env o D W S e P
  unfold xSeq at e
  cases k : F env with
  | none => rw [k] at e; cases e
  | some o1 =>
    rw [k, Option.bind_some] at e
    refine h1 base O0 O σ H env o1 _ W S k ?_
    cases o1 with
    | any => cases e; exact P
    | er er en => cases e; exact P
    | ok o1 =>
      cases o1 with
      | nx en => exact fun O2 σ2 H2 x S2 => h2 base O0 O2 σ2 H2 en o D W S2 e (P.mono x)
      | br en => cases e; exact P
      | ct en => cases e; exact P
      | rt d => cases e; exact P
      | rtn ds => cases e; exact P
      | rtm d en => cases e; exact P
      | rto s => cases e; exact P
      | rts a s c => cases e; exact P
def xIf (t : PL.Env → Option Bool) (F G : PL.Env → Option OutX) : PL.Env → Option OutX := fun env => (t env).bind fun b => if b then F env else G env
theorem denx_if {tt : TT} {t : PL.Env → Option Bool} {ts tu : WX → TS} {F G : PL.Env → Option OutX} (ht : DenT K tt t) (h1 : DenX K ts F) (h2 : DenX K tu G) : DenX K (fun W => tIfS tt (ts W) (tu W)) (xIf t F G) := by
  intro base O0 O σ H env o D W S e P
  unfold xIf at e
  cases k : t env with
  | none => rw [k] at e; cases e
  | some b =>
    rw [k, Option.bind_some] at e
    refine ht base O0 O σ H env b S k _ fun H1 x1 => ?_
    cases b with
    | true =>
      show ts W D σ H1
      exact h1 base O0 O σ H1 env o D W (S.mono x1) (by simpa using e) (P.mono (vis_mono x1))
    | false =>
      show tu W D σ H1
      exact h2 base O0 O σ H1 env o D W (S.mono x1) (by simpa using e) (P.mono (vis_mono x1))
def xfGo (G : PyData → PL.Env → Option PL.Env) (F : PL.Env → Option OutX) : List PyData → PL.Env → Option OutX
  | [], env => some (.ok (.nx env))
  | x :: xs, env => (G x env).bind fun e1 => (F e1).bind fun
    | .ok (.nx e) => xfGo G F xs e
    | .ok (.ct e) => xfGo G F xs e
    | .ok (.br e) => some (.ok (.nx e))
    | o => some o
def xFor (fi : PL.Env → Option (List PyData)) (G : PyData → PL.Env → Option PL.Env) (F : PL.Env → Option OutX) : PL.Env → Option OutX := fun env => (fi env).bind fun xs => xfGo G F xs env
theorem denx_for {wi : TI} {g : TG} {S0 : List Nat} {ts : WX → TS} {fi : PL.Env → Option (List PyData)} {G : PyData → PL.Env → Option PL.Env} {F : PL.Env → Option OutX} (hi : DenI K wi fi) (hg : DenG K S0 g G) (hb : DenX K ts F) : DenX K (fun W => tFor wi g (ts W)) (xFor fi G F) := by
  intro base O0 O σ H env o D W S e P
  unfold xFor at e
  cases k : fi env with
  | none => rw [k] at e; cases e
  | some xs =>
    rw [k, Option.bind_some] at e
    refine hi base O0 O σ H env xs S k _ fun J H1 x1 it => ?_
    refine ⟨fun i m σ' H' => ∃ O' en, Ex (vis O H1) (vis O' H') ∧ Sat K base O0 O' σ' H' en ∧ xfGo G F (xs.drop i) en = some o ∧ m = xs.length - i, ⟨_, O, env, Ex.refl _, S.mono x1, e, rfl⟩, fun i m σ' H' hw => ?_⟩
    obtain ⟨O', en, y1, S1, eq, rfl⟩ := hw
    have itH := it O' H' S1.all (y1.trans vis_le) y1
    have P1 : PostX K base O0 (vis O' H') D W o := P.mono ((vis_mono x1).trans y1)
    by_cases hlt : i < xs.length
    · refine .inr ?_
      obtain ⟨go, yl⟩ := itH.1 i _ (List.getElem?_eq_getElem hlt)
      rw [List.drop_eq_getElem_cons hlt] at eq
      unfold xfGo at eq
      cases kg : G xs[i] en with
      | none => rw [kg] at eq; cases eq
      | some e2 =>
        rw [kg, Option.bind_some] at eq
        cases kf : F e2 with
        | none => rw [kf] at eq; cases eq
        | some o2 =>
          rw [kf, Option.bind_some] at eq
          refine ⟨go, fun σ2 H2 => ∃ O2 e3, Ex (vis O H1) (vis O2 H2) ∧ Sat K base O0 O2 σ2 H2 e3 ∧ xfGo G F (xs.drop (i + 1)) e3 = some o, fun σ2 H2 h => ?_, fun x H2 y => ?_⟩
          · obtain ⟨O2, e3, a1, a2, a3⟩ := h
            exact ⟨xs.length - (i + 1), by omega, O2, e3, a1, a2, a3, rfl⟩
          · obtain ⟨xe, rx⟩ := yl x H2 y
            refine hg base O0 O' σ' H2 en x xs[i] e2 (S1.mono xe) rx kg _ fun σ2 s2 _ _ => ?_
            refine hb base O0 O' σ2 H2 e2 o2 _ W s2 kf ?_
            have P2 := P1.mono (vis_mono xe)
            cases o2 with
            | any => cases eq; exact P2
            | er er en => cases eq; exact P2
            | ok o2 =>
              cases o2 with
              | nx e3 => exact fun O2 σ3 H3 z S3 => ⟨O2, e3, (y1.trans (vis_mono xe)).trans z, S3, eq⟩
              | ct e3 => exact fun O2 σ3 H3 z S3 => ⟨O2, e3, (y1.trans (vis_mono xe)).trans z, S3, eq⟩
              | br e3 => cases eq; exact P2
              | rt d => cases eq; exact P2
              | rtn ds => cases eq; exact P2
              | rtm d e3 => cases eq; exact P2
              | rto s => cases eq; exact P2
              | rts a s c => cases eq; exact P2
    · refine .inl ⟨itH.2 i (by omega), ?_⟩
      rw [List.drop_eq_nil_of_le (by omega)] at eq
      cases eq
      exact P1 O' σ' H' (Ex.refl _) S1
/-! ### expressions that may raise, in statements -/
/-- an expression let go -/
def xDrop (f : PL.Env → Option RX) : PL.Env → Option OutX := fun env => (f env).map fun
  | .val _ => .ok (.nx env)
  | .any => .ok (.nx env)
  | .er e => .er e env
theorem denx_drop {te : WX → TE} {f : PL.Env → Option RX} (h : DenPX K te f) : DenX K (fun W => tDrop (te W)) (xDrop f) := by
  intro base O0 O σ H env o D W S e P
  unfold xDrop at e
  cases k : f env with
  | none => rw [k] at e; cases e
  | some r =>
    rw [k] at e
    refine h base O0 O σ H env r W S k _ ?_
    cases r with
    | val d => cases e; exact fun v H' x y _ => P O σ H' y (S.mono x)
    | any => cases e; exact fun v H' x y => P O σ H' y (S.mono x)
    | er er => cases e; exact fun cls dO H' x y z => P cls dO O σ H' y (S.mono x) z
def xAsg (f : PL.Env → Option RX) (i : Nat) : PL.Env → Option OutX := fun env => (f env).bind fun
  | .val d => some (.ok (.nx (env.set i (.sh d))))
  | .any => none
  | .er e => some (.er e env)
theorem denx_asg {te : WX → TE} {f : PL.Env → Option RX} {i : Nat} (h : DenPX K te f) : DenX K (fun W => tAsg (te W) (gName i)) (xAsg f i) := by
  intro base O0 O σ H env o D W S e P
  unfold xAsg at e
  cases k : f env with
  | none => rw [k] at e; cases e
  | some r =>
    rw [k, Option.bind_some] at e
    refine h base O0 O σ H env r W S k _ ?_
    cases r with
    | val d => cases e; exact fun v H' x y r2 => P O _ H' y ((S.mono x).set r2)
    | any => cases e
    | er er => cases e; exact fun cls dO H' x y z => P cls dO O σ H' y (S.mono x) z
def xRet (f : PL.Env → Option RX) : PL.Env → Option OutX := fun env => (f env).map fun
  | .val d => .ok (.rt d)
  | .any => .any
  | .er e => .er e env
theorem denx_ret {te : WX → TE} {f : PL.Env → Option RX} (h : DenPX K te f) : DenX K (fun W => tRet (te W)) (xRet f) := by
  intro base O0 O σ H env o D W S e P
  unfold xRet at e
  cases k : f env with
  | none => rw [k] at e; cases e
  | some r =>
    rw [k] at e
    refine h base O0 O σ H env r W S k _ ?_
    cases r with
    | val d =>
      cases e
      intro v H' x y r2
      have S1 := S.mono x
      exact P v H' S1.ex (y.trans S1.out) (r2.mono S1.out)
    | any =>
      cases e
      intro v H' x y
      have S1 := S.mono x
      exact P v H' S1.ex (y.trans S1.out)
    | er er => cases e; exact fun cls dO H' x y z => P cls dO O σ H' y (S.mono x) z
/-- an expression that raises nothing -/
def xVal (f : PL.Env → Option PyData) : PL.Env → Option RX := fun env => (f env).map .val
theorem denpx_of {te : TE} {f : PL.Env → Option PyData} (h : DenP K te f) : DenPX K (fun _ => te) (xVal f) := by
  intro base O0 O σ H env r W S e Q q
  unfold xVal at e
  cases k : f env with
  | none => rw [k] at e; cases e
  | some d =>
    rw [k] at e
    cases e
    exact h base O0 O σ H env d S k Q fun v H' x r => q v H' x (vis_mono x) r
end
/-! ### a def that may raise -/
def spX (K : PySem.W.Frag) (n : Nat) (f : List PyData → Option RX) : Sp := fun vs H Q E => ∃ (O : Hid) (ds : List PyData) (r : RX), vs.length = n ∧ (∀ a, O a = true → H a ≠ none) ∧ RpAll K (vis O H) vs ds ∧ f ds = some r ∧ RetX K O H [] (fun cls d _ H => E cls d H) Q r
def outR : Option OutX → Option RX
  | some (.ok (.rt d)) => some (.val d)
  | some (.ok (.nx _)) => some (.val .none)
  | some (.ok (.rtn ds)) => some (.val (.list ds))
  | some (.ok (.rto _)) => some .any
  | some (.ok (.rts _ _ _)) => some .any
  | some .any => some .any
  | some (.er e _) => some (.er e)
  | _ => none
def fnX (n : Nat) (F : PL.Env → Option OutX) : List PyData → Option RX := fun ds => outR (F (fEnv n ds))
section
variable {K : PySem.W.Frag}
theorem fn_denX {P : Program} {w : World} {mg : Str → Option Value} {base : Heap} {x qual : Str} {st : Stmt} {f : Addr} {fd : FuncData} {N ps : List Str} {k : Nat} {F : PL.Env → Option OutX} (Fu : Fun K x qual st f fd) (S : FnScope N ps (defScope st)) (hn : ps.length ≤ N.length)
    (hb : ∀ (cdv : Value) (A : Around) (outer : List PySem.Env) (s : Shared) (H : Hp) (E : XK), Room k (A.deeper (envOfC qual (defScope st) s.heap.objs.size f cdv)) →
      ∃ t, XB K (cxOf (L2.CX P w) P w K mg base N qual (defScope st) f cdv A outer s H E) (defBody st) t F) : FnOk P w K mg base (L2.CX P w) (k + 1) f fd ps (spX K ps.length (fnX N.length F)) := by
  refine Fu.okX S (fun vs H Q E h => ?_) (fun cdv A outer s H vs Q E hr h => ?_)
  · obtain ⟨O, ds, r, hl, _⟩ := h
    exact hl
  · obtain ⟨O, ds, r, hl, al, rp, hf, q⟩ := h
    obtain ⟨t, T⟩ := hb cdv A outer s H E hr
    refine ⟨_, T.pe (fun cls d _ H => E cls d H) (takes_of rfl rfl rfl rfl), ?_⟩
    unfold fnX at hf
    cases k1 : F (fEnv N.length ds) with
    | none => rw [k1] at hf; cases hf
    | some o =>
      rw [k1] at hf
      refine T.de H O O (L2.start N vs) H (fEnv N.length ds) o _ _ (sat_start al rp (by omega)) k1 ?_
      cases o with
      | any => cases hf; exact fun v H' x y => q v H' x y
      | er er en =>
        cases hf
        exact fun cls dO O2 σ2 H2 x S2 z => q cls dO H2 S2.ex (x.trans S2.out) z
      | ok o =>
        cases o with
        | nx e => cases hf; exact fun O2 σ2 H2 x S2 => q _ H2 S2.ex (x.trans S2.out) .non
        | br e => cases hf
        | ct e => cases hf
        | rt d => cases hf; exact fun v H2 x y r2 => q v H2 x y r2
        | rtn ds2 =>
          cases hf
          refine fun p vs2 H2 b x y g r2 => q _ H2 x y (.lst (vis_at ?_ g) (r2.mono hid_le))
          cases z : O p with
          | false => rfl
          | true => exact absurd b (al p z)
        | rtm d e => cases hf
        | rto s => cases hf; exact fun v fp H2 _ x y _ => q v H2 x y
        | rts a s c => cases hf; exact fun t us v ws fp H2 _ _ x y _ _ _ _ => q _ H2 x y
theorem denpx_call {n : Nat} {g : List PyData → Option RX} {tr : TA} {fr : PL.Env → Option (List PyData)} (h : DenAP K tr fr) : DenPX K (fun W => tCallS (spX K n g) (WE W) tr) (fun env => (fr env).bind fun ds => if ds.length = n then g ds else none) := by
  intro base O0 O σ H env r W S e Q q
  replace e : ((fr env).bind fun ds => if ds.length = n then g ds else none) = some r := e
  cases k1 : fr env with
  | none => rw [k1] at e; cases e
  | some xs =>
    rw [k1, Option.bind_some] at e
    split at e
    case isFalse => cases e
    rename_i hn
    refine h base O0 O σ H env xs S k1 _ fun vs H1 x1 rp => ?_
    refine ⟨O, xs, r, by rw [rp.length]; exact hn, (S.mono x1).all, rp, e, ?_⟩
    cases r with
    | val d => exact fun v H2 x2 y2 r2 => q v H2 (x1.trans x2) ((vis_mono x1).trans y2) r2
    | any => exact fun v H2 x2 y2 => q v H2 (x1.trans x2) ((vis_mono x1).trans y2)
    | er er => exact fun cls dO H2 x2 y2 z => q cls dO H2 (x1.trans x2) ((vis_mono x1).trans y2) z
/-- a def x that may raise -/
structure CalX (P : Program) (w : World) (K : PySem.W.Frag) (mg : Str → Option Value) (base : Heap) (k : Nat) (x : Str) (n : Nat) (ps : List Str) (g : List PyData → Option RX) : Prop where
  ex : ∃ f fd, FnOk P w K mg base (L2.CX P w) k f fd ps (spX K n g) ∧ mg x = some (.ref f) ∧ PySem.W.keepIn K (.ref f) = true ∧ Binds K fd ps []
variable {X : Cx} {e : Expr} {es : List Expr} {tr : TA} {fr : PL.Env → Option (List PyData)} {p pos : Pos} {x : Str} {n k m : Nat} {ps : List Str} {g : List PyData → Option RX}
theorem calX (C : CalX X.prog X.w K X.mg X.base k x n ps g) (hr : Room m X.A) (hk : k ≤ m) (ha : EB K X (e :: es) tr fr)
    (hg : Gl X x := by rfl) (hdb : (x == ("__debug__" : Str)) = false := by decide) (he : starEach (e :: es) X.env = (false, eval e X.env) :: starEach es X.env := by rfl) (hpl : (backTo pos (starEach es X.env)).any (·.1) = false := by rfl) (hK : X.K = K := by rfl) :
    XE_ K X (.Call (.Name x p) (e :: es) [] pos) (fun W => tCallS (spX K n g) (WE W) tr) (fun env => (fr env).bind fun ds => if ds.length = n then g ds else none) := by
  subst hK
  obtain ⟨f, fd, F, hm, kp, hb⟩ := C
  exact ⟨fun W tk => pe_callS F (hr.mono hk) hg hm kp hb (fun σ => passAt tk σ) ha.pe hdb he hpl, denpx_call ha.de⟩
variable {st : Stmt} {sts : List Stmt} {ts tu : WX → TS} {F G : PL.Env → Option OutX} {te : WX → TE} {f : PL.Env → Option RX}
theorem XS.of {t : TS} {F : PL.Env → Option Out} (h : ES K X.nox st t F) : XS K X st (fun _ => t) (lft F) := ⟨fun _ _ => PS_nox h.pe, denx_of h.de⟩
theorem XB.of {t : TS} {F : PL.Env → Option Out} (h : EK K X.nox sts t F) : XB K X sts (fun _ => t) (lft F) := ⟨fun _ _ => PSs.nox h.pe, denx_of h.de⟩
theorem x0 : XB K X [] (fun _ => tNext) (lft sNext) := ⟨fun _ _ => pss_nil, denx_of dens_next⟩
theorem x1 (h : XS K X st ts F) : XB K X [st] ts F := ⟨fun W tk => pss_one (h.pe W tk), h.de⟩
theorem xC_ (h : XS K X st ts F) (hr : XB K X sts tu G) : XB K X (st :: sts) (fun W => tSeq (ts W) (tu W)) (xSeq F G) := ⟨fun W tk => pss_cons (h.pe W tk) (hr.pe W tk), denx_seq h.de hr.de⟩
variable {c : Expr} {tt : TT} {t : PL.Env → Option Bool} {sa sb : List Stmt}
theorem xIf_ (h : ET K X c tt t) (ha : XB K X sa ts F) (hb : XB K X sb tu G) : XS K X (.If c sa sb pos) (fun W => tIfS tt (ts W) (tu W)) (xIf t F G) := ⟨fun W tk => ps_if h.pe (ha.pe W tk) (hb.pe W tk), denx_if h.de ha.de hb.de⟩
theorem xFor_ {iter tg : Expr} {body : List Stmt} {wi : TI} {g : TG} {S : List Nat} {fi : PL.Env → Option (List PyData)} {G' : PyData → PL.Env → Option PL.Env} (hp : PassesOwn (model X.prog X.w) X.A X.env X.xe) (hi : EI K X tg iter wi fi) (hg : EG K X S tg g G') (hb : XB K X body ts F) (hc : X.calm = true := by rfl) (hs : ∀ x, foldedSetIterable iter X.env x = pure x := by intro _; rfl) :
    XS K X (.For tg iter body [] pos) (fun W => tFor wi g (ts W)) (xFor fi G' F) := ⟨fun W tk => ps_for hp hc hi.pe hg.pe (hb.pe W tk) hs, denx_for hi.de hg.de hb.de⟩
theorem xDrop_ (h : XE_ K X e te f) (hs : swapsWith e none pos.line X.env = pure false := by rfl) : XS K X (.Expr e pos) (fun W => tDrop (te W)) (xDrop f) := ⟨fun W tk => ps_expr (h.pe W tk) hs, denx_drop h.de⟩
theorem xRet_ (h : XE_ K X e te f) : XS K X (.Return (some e) pos) (fun W => tRet (te W)) (xRet f) := ⟨fun W tk => ps_ret (h.pe W tk), denx_ret h.de⟩
theorem xAsg_ (i : Nat) {x : Str} {px : Pos} (nd : X.N.Nodup) (h : XE_ K X e te f) (hN : X.N[i]? = some x := by rfl) (hl : Loc X.env.scope x := by first | exact Or.inl rfl | exact Or.inr rfl) (hf : X.fn x = true ∨ X.env.scope.names.lookup x = some .local := by first | exact Or.inr rfl | exact Or.inl rfl)
    (hs : swapsWithSole [.Name x px] e pos.line X.env = pure false := by rfl) (h2 : swappedStores [.Name x px] e X.env = pure none := by rfl) (h3 : (assignEach [.Name x px] X.env).map (·.2) = [assign (.Name x px) X.env] := by rfl) :
    XS K X (.Assign [.Name x px] e pos) (fun W => tAsg (te W) (gName i)) (xAsg f i) := ⟨fun W tk => ps_asg (h.pe W tk) (pg_name nd hN hl hf) hs h2 h3, denx_asg h.de⟩
theorem xVal_ {te : TE} {f : PL.Env → Option PyData} (h : EP K X e te f) : XE_ K X e (fun _ => te) (xVal f) := ⟨fun _ _ => h.pe, denpx_of h.de⟩
end
end PX
/-! raise C(e): C with a field at, or bare; what is formatted. -/
namespace PX
open PySem PySem.Spec PyProof.Rows L2 PL NdefX
section
variable {X : Cx}
/-- {x}: None, a text or a number -/
def tFmtN (te : TE) : TE := fun σ H Q => te σ H fun x H1 => (x = .non ∧ Q (.str "None") H1) ∨ ∃ i : Int, x = .int i ∧ i.natAbs.log2 < 1920 ∧ Q (.str (toString i)) H1
theorem pe_fmtN {e : Expr} {te : TE} {pos : Pos} (he : PE X e te) : PE X (.FormattedValue e (-1) none pos) (tFmtN te) := by
  refine ⟨fun pins s σ H Q I h => ?_⟩
  refine wpAny_FormattedValue_plain (thn (he.run pins s σ H _ I h) fun v s1 hv => ?_)
  obtain ⟨x, H1, I1, r1, q⟩ := hv
  rcases q with ⟨rfl, q⟩ | ⟨i, rfl, hz, q⟩
  · cases r1
    exact wpAny_formatField_none ⟨.str "None", H1, I1.tok _, ⟨_, rfl⟩, q⟩
  · obtain ⟨t, rfl⟩ := r1
    exact wpAny_formatField_int hz ⟨.str (toString i), H1, I1.tok _, ⟨_, rfl⟩, q⟩
end
/-- what a text in front of a place asks -/
def okAt (m : Str) : PyData → Bool
  | .none => true
  | .int i => decide (i.natAbs.log2 < 1920 ∧ ((Str.empty ++ m) ++ (toString i : Str)).length ≤ sizeLine)
  | _ => false
def spInitE (C : Addr) (m : Str) : Sp := fun vs H Q _ => ∃ a v d, vs = [.ref a, v] ∧ H a = some (exo a C none) ∧ ((v = .non ∧ d = PyData.none) ∨ ∃ i, v = .int i ∧ d = .int i) ∧ okAt m d = true ∧ ∀ dx, H dx = none → dx ≠ a → Q .non (upd (upd H dx (exd dx [("at", v)])) a (exo a C (some dx)))
section
variable {P : Program} {w : World} {K : PySem.W.Frag} {mg : Str → Option Value} {base : Heap}
theorem init_ok {CX : CXT} {m : Str} {f C cc cda : Addr} {name qual : Str} {params : Arguments} {scope : Scope} {kV doc pm ct oc : Value} {an od : Option Addr} {osl : Array (Option Value)} {a0 : Arg} {j : Nat} {p0 p1 p2 p3 p4 q1 q2 q3 q4 r1 r2 r3 r4 : Pos}
    (T : Sup P K C cc cda qual) (hno : PySem.W.findIn K (.ref C) "at" = some none)
    (lk : K.lookup f = some ⟨oc, od, .func (PySem.W.ksFn name qual params [.Expr (.Call (.Attribute (.Call (.Name "super" p0) [] [] p1) "__init__" p2) [.JoinedStr [.Constant (.str m) j q1, .FormattedValue (.Name "at" q2) (-1) none q3] q4] [] p3) p4, .Assign [.Attribute (.Name "self" r1) "at" r2] (.Name "at" r3) r4] scope .none kV doc pm an (.ref cda) ct cc), osl⟩)
    (S : NScope ["self", "at", "__class__"] ["self", "at"] ["__class__"] scope) (hks : scope.names.lookup ("super" : Str) = some .globalImplicit) (hp : (params.posonlyargs ++ params.args).head? = some a0) (ha0 : a0.arg = ("self" : Str))
    (hbt : bootBuiltins "super" = some (.type "super")) (hm : (Str.empty ++ m).length ≤ sizeLine) (hm2 : ((Str.empty ++ m) ++ ("None" : Str)).length ≤ sizeLine)
    (hev : ∀ env : PySem.Env, ∃ pl : Sem Bool, eval (.Call (.Attribute (.Call (.Name "super" p0) [] [] p1) "__init__" p2) [.JoinedStr [.Constant (.str m) j q1, .FormattedValue (.Name "at" q2) (-1) none q3] q4] [] p3) env = (do
      let ov ← attributeBase (.Call (.Name "super" p0) [] [] p1) "__init__" env (eval (.Call (.Name "super" p0) [] [] p1) env)
      standAt p2.atName
      let (f, first) ← holding [ov] (getMethod ov "__init__" pl)
      callWith p3 f first (backTo p3 (starEach [.JoinedStr [.Constant (.str m) j q1, .FormattedValue (.Name "at" q2) (-1) none q3] q4] env)) [])) :
    FnOk P w K mg base CX 1 f (PySem.W.ksFn name qual params [.Expr (.Call (.Attribute (.Call (.Name "super" p0) [] [] p1) "__init__" p2) [.JoinedStr [.Constant (.str m) j q1, .FormattedValue (.Name "at" q2) (-1) none q3] q4] [] p3) p4, .Assign [.Attribute (.Name "self" r1) "at" r2] (.Name "at" r3) r4] scope .none kV doc pm an (.ref cda) ct cc) ["self", "at"] (spInitE C m) := by
  have ls : scope.names.lookup ("self" : Str) = some .local := S.par _ (by decide)
  have la : scope.names.lookup ("at" : Str) = some .local := S.par _ (by decide)
  refine fn_sup (k := 0) (N := ["self", "at", "__class__"]) (a0 := a0) T lk S hks hp (by rw [ha0]; rfl) (by rw [ha0]; exact ls) hbt (fun vs H Q E h => ?_) (by intro _; rfl) (by intro _; rfl) hev (fun A outer s H vs Q E hr h => ?_)
  · obtain ⟨a, v, d, rfl, _⟩ := h
    rfl
  · obtain ⟨a, v, d, rfl, ha, hv, hd, hq⟩ := h
    have pv1 : ∀ {q : Pos}, PE (ncx CX P w K mg base ["self", "at", "__class__"] (nfS name qual params [.Assign [.Attribute (.Name "self" r1) "at" r2] (.Name "at" r3) r4] scope cc cda) f A outer s H E) (.Name "at" q) (tVar 1) := fun {q} => pe_var rfl (.inl la) (by decide) (by decide)
    have pv0 : ∀ {q : Pos}, PE (ncx CX P w K mg base ["self", "at", "__class__"] (nfS name qual params [.Assign [.Attribute (.Name "self" r1) "at" r2] (.Name "at" r3) r4] scope cc cda) f A outer s H E) (.Name "self" q) (tVar 0) := fun {q} => pe_var rfl (.inl ls) (by decide) (by decide)
    refine ⟨_, _, a, pe_joined (PJ.cons pe_str (PJ.cons (pe_fmtN pv1) PJ.nil)), pss_one (ps_ost pv0 pv1), rfl, ha, ?_⟩
    have fin : tOst K "at" (tVar 0) (tVar 1) { nx := fun _ H' => Q .non H', rt := Q } (startF ["self", "at", "__class__"] [.ref a, v] [some (.ref C)]) H :=
      ⟨v, rfl, .ref a, rfl, a, C, rfl, T.oex, hno, .inl ⟨ha, fun dx h1 h2 => hq dx h1 h2⟩⟩
    refine ⟨m, rfl, hm, v, rfl, ?_⟩
    rcases hv with ⟨rfl, rfl⟩ | ⟨i, rfl, rfl⟩
    · exact .inl ⟨rfl, "None", rfl, hm2, ha, fin⟩
    · obtain ⟨z1, z2⟩ := of_decide_eq_true hd
      exact .inr ⟨i, rfl, z1, _, rfl, z2, ha, fin⟩
/-- the class named x, its instances have a field at -/
structure AtC (P : Program) (w : World) (K : PySem.W.Frag) (mg : Str → Option Value) (base : Heap) (x : Str) (C : Addr) (m : Str) : Prop where
  oex : OexC K C
  gC : mg x = some (.ref C)
  ex : ∃ fI fd, PySem.W.findIn K (.ref C) "__init__" = some (some (.ref fI)) ∧ PySem.W.typeIn K (.ref fI) = some (.type "function") ∧ FnOk P w K mg base CX0 1 fI fd ["self", "at"] (spInitE C m) ∧ Binds K fd ["self", "at"] []
/-- the class named x, bare -/
structure BareC (K : PySem.W.Frag) (mg : Str → Option Value) (x : Str) (C : Addr) : Prop where
  q : PySem.W.excIn K C [.type "ValueError", .type "Exception", .type "BaseException", .type "object"] "ValueError.__new__" = true
  gC : mg x = some (.ref C)
  kC : PySem.W.keepIn K (.ref C) = true
  b : PySem.W.subIn K (.ref C) (.type "BaseException") = some true
  t : PySem.W.typeIn K (.ref C) = some (.type "type")
def xRaise (C : Addr) (m : Str) (f : PL.Env → Option PyData) : PL.Env → Option OutX := fun env => (f env).bind fun d => if okAt m d then some (.er (.at_ C d) env) else none
def xRaiseB (C : Addr) (f : PL.Env → Option PyData) : PL.Env → Option OutX := fun env => (f env).map fun _ => .er (.bare C) env
variable {X : Cx} {e : Expr} {te : TE} {f : PL.Env → Option PyData} {x m : Str} {C : Addr} {k : Nat} {p pos q : Pos}
theorem xRaise_ (T : AtC X.prog X.w K X.mg X.base x C m) (hr : Room k X.A) (hk : 2 ≤ k) (h : EP K X e te f) (hg : Gl X x := by rfl) (hdb : (x == ("__debug__" : Str)) = false := by decide) (hc : X.calm = true := by rfl)
    (he : starEach [e] X.env = (false, eval e X.env) :: starEach [] X.env := by rfl) (hpl : (backTo pos (starEach [] X.env)).any (·.1) = false := by rfl) (hK : X.K = K := by rfl) :
    XS K X (.Raise (some (.Call (.Name x p) [e] [] pos)) none q) (fun W _ σ H => tMkO C (spInitE C m) [] (tCons te tNil) σ H fun cls d H' => W cls d σ H') (xRaise C m f) := by
  subst hK
  obtain ⟨oex, gC, fI, fd, iC, tI, F1, hb⟩ := T
  refine ⟨fun W tk => ps_raise hc tk (pmk_oex oex iC tI F1 (hr.mono hk) hb .nil (fun _ _ _ _ _ _ _ z => z.elim) hg gC (pa_cons h.pe pa_nil he) hdb he hpl), ?_⟩
  intro base O0 O σ H env o D W S ev P
  unfold xRaise at ev
  cases k1 : f env with
  | none => rw [k1] at ev; cases ev
  | some d =>
    rw [k1, Option.bind_some] at ev
    split at ev
    case isFalse => cases ev
    rename_i hd
    cases ev
    refine h.de base O0 O σ H env d S k1 _ fun v H1 x1 r => ⟨by show 1 ≤ 1000; omega, fun a hn => ?_⟩
    have hv : (v = .non ∧ d = PyData.none) ∨ ∃ i, v = .int i ∧ d = .int i := by
      cases r with
      | non => exact .inl ⟨rfl, rfl⟩
      | int i => exact .inr ⟨i, rfl, rfl⟩
      | _ => cases hd
    refine ⟨a, v, d, rfl, upd_same, hv, hd, fun dx hdx ne => ⟨rfl, dx, [("at", v)], upd_same, ?_, ?_, ?_⟩⟩
    · rw [upd_ne ne, upd_same]
    · rw [upd_ne ne] at hdx
      exact hdx
    · have hdx1 : H1 dx = none := by
        rw [upd_ne ne] at hdx
        exact hdx
      have ex : Ex H1 (upd (del (upd (upd (upd H1 a (exo a C none)) dx (exd dx [("at", v)])) a (exo a C (some dx))) a) dx (.xd [("at", v)])) := fun b u hb => by
        have n1 : b ≠ a := ne_of_none hb hn
        have n2 : b ≠ dx := ne_of_none hb hdx1
        rw [upd_ne n2, del_ne n1, upd_ne n1, upd_ne n2, upd_ne n1]
        exact hb
      exact P _ _ O σ _ (vis_mono (x1.trans ex)) (S.mono (x1.trans ex)) ⟨rfl, dx, v, rfl, upd_same, hv⟩
theorem xRaiseB_ (T : BareC K X.mg x C) (h : EP K X e te f) (hg : Gl X x := by rfl) (hdb : (x == ("__debug__" : Str)) = false := by decide) (hc : X.calm = true := by rfl)
    (he : starEach [e] X.env = (false, eval e X.env) :: starEach [] X.env := by rfl) (hK : X.K = K := by rfl) :
    XS K X (.Raise (some (.Call (.Name x p) [e] [] pos)) none q) (fun W _ σ H => te σ H fun _ H1 => W (.ref C) none σ H1) (xRaiseB C f) := by
  subst hK
  refine ⟨fun W tk => ps_raise hc tk (SkE.pmk_own1 PySem.F.excBase_ValueError T.q T.gC T.kC (raises_own T.b T.t) hg h.pe he hdb), ?_⟩
  intro base O0 O σ H env o D W S ev P
  unfold xRaiseB at ev
  cases k1 : f env with
  | none => rw [k1] at ev; cases ev
  | some d =>
    rw [k1] at ev
    cases ev
    exact h.de base O0 O σ H env d S k1 _ fun v H1 x1 r => P _ _ O σ H1 (vis_mono x1) (S.mono x1) ⟨rfl, rfl⟩
/-- f"text {number}" -/
def eFs (m : Str) (f : PL.Env → Option PyData) : PL.Env → Option PyData := fun env => (f env).bind fun
  | .int i => if i.natAbs.log2 < 1920 ∧ (Str.empty ++ m).length ≤ sizeLine ∧ ((Str.empty ++ m) ++ (toString i : Str)).length ≤ sizeLine then some (.str ((Str.empty ++ m) ++ (toString i : Str))) else none
  | _ => none
theorem fFs {j : Nat} {q1 q3 q4 : Pos} (h : EP K X e te f) : EP K X (.JoinedStr [.Constant (.str m) j q1, .FormattedValue e (-1) none q3] q4) (fun σ H Q => tJs [tC (.str m), tFmtN te] Str.empty σ H fun out H1 => Q (.str out) H1) (eFs m f) := by
  refine ⟨pe_joined (PJ.cons pe_str (PJ.cons (pe_fmtN h.pe) PJ.nil)), ?_⟩
  intro base O0 O σ H env d S ev Q q
  unfold eFs at ev
  cases k1 : f env with
  | none => rw [k1] at ev; cases ev
  | some d1 =>
    rw [k1, Option.bind_some] at ev
    split at ev
    case h_2 => cases ev
    split at ev
    case isFalse => cases ev
    rename_i i hi
    obtain ⟨h1, h2, h3⟩ := hi
    cases ev
    refine ⟨m, rfl, h2, ?_⟩
    refine h.de base O0 O σ H env _ S k1 _ fun v H1 x1 r => ?_
    cases r
    exact .inr ⟨i, rfl, h1, _, rfl, h3, q _ H1 x1 (.str _)⟩
end
end PX
/-! try with clauses that give the error a name; what a suite asks of its error. -/
namespace PX
open PySem PySem.Spec PyProof.Rows L2 PL
abbrev Clause := Value × Nat × (Addr → Value → Option Addr → TS)
/-- the ends of a suite whose error stands in slot i -/
def goneE (i : Nat) (D : Ends) : Ends := { nx := fun σ' H' => D.nx (σ'.set i none) H', rt := D.rt, bk := fun σ' H' => D.bk (σ'.set i none) H', ct := fun σ' H' => D.ct (σ'.set i none) H' }
def wClauses (K : PySem.W.Frag) (Wout : WX) (D : Ends) : List Clause → WX
  | [] => Wout
  | (c, i, ts) :: r => fun cls d σ H => ∃ b, PySem.W.exmOne K cls c = some b ∧ (b = true → ∀ a, H a = none → ts a cls d (goneE i D) (σ.set i (some (.ref a))) H) ∧ (b = false → wClauses K Wout D r cls d σ H)
inductive ClausesOk (X : Cx) : List ExceptHandler → List Clause → Prop
  | nil : ClausesOk X [] []
  | cons {x n : Str} {c : Value} {i : Nat} {ts : Addr → Value → Option Addr → TS} {b₀ : Stmt} {suite : List Stmt} {np pos' : Pos} {hds : List ExceptHandler} {l : List Clause} (hN : X.N.Nodup) (hi : X.N[i]? = some n) (hln : X.env.kindOf n = some .local) (hc : Names X x c)
      (hsu : ∀ (a : Addr) (oe : Obj) (cls : Value) (d : Option Addr) (pn : List (Addr × Obj)), Zc cls d oe → (∃ vs, oe.data = .fields vs) → PSs (X.suite a ((a, oe) :: pn)) (b₀ :: suite) (ts a cls d)) (r : ClausesOk X hds l) :
      ClausesOk X (.ExceptHandler (some (.Name x np)) (some n) (b₀ :: suite) pos' :: hds) ((c, i, ts) :: l)
section
variable {X : Cx} {body : List Stmt} {h₀ : ExceptHandler} {hds : List ExceptHandler} {l : List Clause} {pos : Pos} {tb : WX → TS} {Wout : WX}
theorem ps_try_clauses (hs : X.stack = X.env :: X.outer) (hf : X.env.frame = some X.env.locals) (tk : Takes X Wout)
    (hb : ∀ (W : WX) (pn : List (Addr × Obj)) (xe : Value → Shared → Prop), Takes (X.tr pn xe) W → PassesOwn (model X.prog X.w) X.A X.env xe → PSs (X.tr pn xe) body (tb W))
    (hh : ClausesOk X (h₀ :: hds) l) : PS X (.Try body (h₀ :: hds) [] [] pos) (fun D σ H => tb (wClauses X.K Wout D l) D σ H) := by
  refine ⟨fun pins s σ H D I h => ?_⟩
  have ok := I.ok
  have hfr : X.A.frames = some (X.env :: X.outer) := by rw [ok.frames, hs]
  refine wpAny_Try_except ?_
  refine wpAny_mono ((hb (wClauses X.K Wout D l) (X.pn ++ pins) (fun e s₁ => wpAny (model X.prog X.w) X.A (noteFrame e X.env) (fun _ s₂ => wpAny (model X.prog X.w) X.A (setFlight e none) (fun _ s₃ =>
    wpAny (model X.prog X.w) X.A (handleBy e X.env (h₀ :: hds)) (SP X pins D) X.xe s₃) X.xe s₂) X.xe s₁) (fun u s' xx => ?_) PassesOwn.looking).run [] s σ H D (I.toTry _) h) (fun f s1 hsp => ?_) (fun e s1 he => he)
  · obtain ⟨a, B, sI, pins', σ', H', cls, d, rfl, J', nb, up, sky, na, os, ag, w⟩ := xx
    have J : Inv X pins σ' H' sI := J'.ofTry ok
    have sky' : Sky B (X.env :: X.outer) a (Zc cls d) X.env.locals s'.heap := by rw [← hs]; exact sky
    show wpAny (model X.prog X.w) X.A (noteFrame (.ref a) X.env) _ _ _
    refine Sky.land Zc.steady hfr hf sky' fun h3 fl3 up3 => ?_
    have J3 : Inv X pins σ' H' { s' with heap := h3 } := J.landed nb fl3.1 (up.trans up3) os ag
    obtain ⟨oe3, vs3, he3, hz3, hd3⟩ := fl3.there
    have notFr : ∀ {h : Heap} {o : Obj} {vs : Array Value}, h.FunFrames B (X.env :: X.outer) → h.get? a = some o → o.data = .fields vs → a ∉ frs (X.env :: X.outer) := fun {h o vs} ff e dd hm => by
      obtain ⟨_, o', e', hnf⟩ := ff.mem hm
      rw [e] at e'; cases e'
      exact hnf _ dd
    have nfr := notFr fl3.2.2.1 he3 hd3
    have nL : a ≠ X.env.locals := fun z => nfr (List.mem_filterMap.mpr ⟨X.env, List.mem_cons_self, by rw [hf, z]⟩)
    have nF : a ∉ X.fs := fun hm => by
      obtain ⟨e, he, q⟩ := List.mem_filterMap.mp hm
      exact nfr (List.mem_filterMap.mpr ⟨e, List.mem_cons_of_mem _ he, q⟩)
    have S3 := J3.suite he3 hd3 na nL nF
    have go : ∀ {hds' : List ExceptHandler} {l' : List Clause}, ClausesOk X hds' l' → wClauses X.K Wout D l' cls d σ' H' →
        wpAny (model X.prog X.w) X.A (handleBy (.ref a) X.env hds') (SP X pins D) X.xe { s' with heap := h3 } := by
      intro hds' l' hk
      induction hk with
      | nil =>
        intro w
        refine wpAny_handleBy_nil ?_
        obtain ⟨k1, k2, k3, oe, vs, T, oT, ts', he, hz, hd, h1, hr⟩ := id fl3
        unfold PySem.passOn
        refine wpAny_bind (wpAny_field he hd h1 ?_)
        rw [if_neg (show ¬ ((Value.ref T == Value.none) = true) from by simp)]
        have fin : wpAny (model X.prog X.w) X.A (setFlight (.ref a) X.env.frame) (fun _ s4 => wpAny (model X.prog X.w) X.A (throw (.ref a) : Sem Flow) (SP X pins D) X.xe s4) X.xe { s' with heap := h3 } := by
          rw [hf]
          refine HandSPX.setFlight_upZ fl3 fun h4 hh4 up4 => wpAny_throw (tk _ _ ?_)
          exact ⟨a, B, sI, pins, σ', H', cls, d, rfl, J, nb, (up.trans up3).trans up4, .inr (.inr (by rw [hs]; exact hh4)), na, os, ag, w⟩
        first
          | exact wpAny_bind (wpAny_pure (wpAny_bind fin))
          | exact wpAny_bind fin
      | @cons x n c i ts b₀ suite np pos' hds2 l2 hN hi hln hc hsu r ih =>
        intro w
        obtain ⟨b, hb1, hyes, hno⟩ := w
        have hloc : Loc X.env.scope n := .inl hln
        refine wpAny_handleBy_cons (codeAny_handlers_test ?_) (by intro q; cases q)
        have LT : PySem.W.Looks (model X.prog X.w) h3 (typeOf (.ref a)) cls := fun A Q E s k q => wpAny_typeOf_ref (k _ _ he3) (by rw [hz3.1]; exact q)
        have LM := PySem.W.exm_one (M := model X.prog X.w) (J3.kIn) LT hb1
        have test : ∀ {Q : Value → Shared → Prop} {E : Value → Shared → Prop}, Q c { s' with heap := h3 } → wpAny (model X.prog X.w) (X.A.mark (some (.ref a))) (eval (.Name x np) X.env) Q E { s' with heap := h3 } := fun {Q E} q => by
          obtain ⟨hg, hdbg, hm | ⟨hm, hv, hnn⟩⟩ := hc
          · exact ld_glob (X := X.suite a ((a, oe3) :: (X.pn ++ pins))) S3 hg hm q hdbg
          · exact ld_blt (X := X.suite a ((a, oe3) :: (X.pn ++ pins))) S3 hg hm hv q hnn hdbg
        refine test (LM.here ?_)
        cases b with
        | true =>
          refine codeAny_handlers_suite_as ?_
          refine HandSPX.lands_againZ fl3 fun h4 fl4 up4 => ?_
          have J4 : Inv X pins σ' H' { s' with heap := h4 } := J.landed nb fl4.1 ((up.trans up3).trans up4) os ag
          obtain ⟨oe4, vs4, he4, hz4, hd4⟩ := fl4.there
          have S4 := J4.suite he4 hd4 na nL nF
          refine store_ok (X := X.suite a ((a, oe4) :: (X.pn ++ pins))) (v := .ref a) S4 hN hi hloc rfl (fun s5 S5 => ?_) (.inr hln)
          refine wpAny_mono ((hsu a oe4 cls d (X.pn ++ pins) hz4 ⟨_, hd4⟩).run [] s5 _ H' _ S5 (hyes rfl a na)) (fun f s6 hsp => ?_) (fun _ _ z => False.elim z)
          have end_ : ∀ {σ6 : L2.St} {H6 : Hp} {Q : Shared → Prop}, Inv (X.suite a ((a, oe4) :: (X.pn ++ pins))) [] σ6 H6 s6 → (∀ s7, Inv X pins (σ6.set i none) H6 s7 → Q s7) →
              wpAny (model X.prog X.w) X.A (do bindName X.env n .none; unbindBehindTheSuite X.env n pos') (fun _ s7 => Q s7) X.xe s6 := fun {σ6 H6 Q} S6 hq => gone_ok (S6.unsuite ok) hN hi hln hq
          cases f with
          | next =>
            obtain ⟨σ6, H6, S6, q6⟩ := hsp
            exact end_ S6 fun s7 J7 => ⟨_, _, J7, q6⟩
          | brk =>
            obtain ⟨σ6, H6, S6, q6⟩ := hsp
            exact end_ S6 fun s7 J7 => ⟨_, _, J7, q6⟩
          | cont =>
            obtain ⟨σ6, H6, S6, q6⟩ := hsp
            exact end_ S6 fun s7 J7 => ⟨_, _, J7, q6⟩
          | ret u =>
            obtain ⟨v6, σ6, H6, S6, r6, q6⟩ := hsp
            exact end_ S6 fun s7 J7 => ⟨_, _, _, J7, r6, q6⟩
        | false =>
          show wpAny _ X.A (handleBy (.ref a) X.env hds2) _ _ _
          exact ih (hno rfl)
    exact go hh w
  · cases f with
    | next =>
      obtain ⟨σ', H', J', q⟩ := hsp
      exact wpAny_execs_nil ⟨σ', H', J'.ofTry ok, q⟩
    | brk =>
      obtain ⟨σ', H', J', q⟩ := hsp
      exact ⟨σ', H', J'.ofTry ok, q⟩
    | cont =>
      obtain ⟨σ', H', J', q⟩ := hsp
      exact ⟨σ', H', J'.ofTry ok, q⟩
    | ret u =>
      obtain ⟨v, σ', H', J', r, q⟩ := hsp
      exact ⟨v, σ', H', J'.ofTry ok, r, q⟩
end
/-! ### isinstance of the suite's error -/
theorem kitx_err {K : PySem.W.Frag} {x D : Addr} {ox : Obj} {od : Option Obj} (C : ExcC K D) : PySem.W.KitX K (.ref x) (.ref D) (fun h => PySem.W.InstAt h x ox D od) where
  ty := fun _ _ _ I => I.type
  it := fun _ _ X _ => by
    obtain ⟨cdD, hcD, _⟩ := PySem.W.any_some C.hd
    unfold PySem.W.clsIn at hcD
    split at hcD
    · rename_i c' d' cd' sl' ho
      intro A' Q' E' s' k q
      unfold isType loadHead
      exact wpAny_bind (wpAny_loadPart (k _ _ (X _ _ ho)) (wpAny_pure q))
    · cases hcD
  ne := fun h tp dd its n sl X htp => by
    obtain ⟨cdD, hcD, _⟩ := PySem.W.any_some C.hd
    refine Bool.eq_false_iff.mpr fun q => ?_
    have e : D = tp := Value.ref.inj (beq_iff_eq.mp q)
    subst e
    unfold PySem.W.clsIn at hcD
    split at hcD
    · rename_i c' d' cd' sl' ho
      have z := (X _ _ ho).symm.trans htp
      cases z
    · cases hcD
  ca := fun X I k => by
    have hf : PySem.W.findObj K D od "__class__" = some (.bind (.builtin "getset_descriptor.__get__") (.builtin "object.__class__")) := by
      obtain ⟨cd, hc, _⟩ := PySem.W.any_some C.hd
      unfold PySem.W.findObj
      rw [hc, Option.bind_some, C.ha, Option.bind_some]
      simp [C.hn, C.ht]
    exact PySem.W.kx_classE X I C.hg C.hk C.hs hf C.hm k
/-- isinstance(error, c): a the error, cls its class, d its dict -/
def rIsX (K : PySem.W.Frag) (a : Addr) (cls : Value) (d : Option Addr) : List V → Hp → VK → Prop := fun xs H Q => ∃ (D : Addr) (c : V) (cv : Value) (b : Bool), cls = .ref D ∧ ExcC K D ∧ xs = [.ref a, c] ∧ (∀ u, RelV c u → u = cv) ∧ PySem.W.kitOne K (.ref D) cv = some b ∧ (d = none ∨ ∃ dx fs, d = some dx ∧ H dx = some (.xd fs)) ∧ Q (.bl b) H
theorem call_isX {X : Cx} {a : Addr} {cls : Value} {d : Option Addr} {oe : Obj} {pn : List (Addr × Obj)} (hz : Zc cls d oe) (hf : ∃ vs, oe.data = .fields vs) : CallR (X.suite a ((a, oe) :: pn)) (.builtin "isinstance") (rIsX X.K a cls d) := by
  intro pins s σ H xs us Q I r h
  obtain ⟨D, c, cv, b, rfl, C, rfl, hcv, e, hd, q⟩ := h
  cases r with
  | cons rx rr =>
    cases rr with
    | cons rt rr =>
      cases rr
      cases rx
      have ec := hcv _ rt
      subst ec
      obtain ⟨hget, _⟩ := I.pin (a, oe) (List.mem_append.mpr (.inl List.mem_cons_self))
      obtain ⟨vs, hv⟩ := hf
      have nc : PySem.W.notCls oe = true := by unfold PySem.W.notCls; rw [hv] <;> rfl
      rcases hd with rfl | ⟨dx, fs, rfl, hx⟩
      · have J : PySem.W.InstAt s.heap a oe D none := ⟨hget, hz.1, nc, by rw [hz.2]; trivial⟩
        exact PySem.W.kia_one (kitx_err C) I.kIn J e (fun z => nomatch z) fun tk => ⟨.bl b, H, I.kept (t' := tk) fun _ _ z => z, rfl, q⟩
      · have hx' : ObjOk X.prog X.w H s.heap dx (.xd fs) := I.hok dx _ hx
        obtain ⟨mA, hns, hr⟩ := hx'
        obtain ⟨od, ho, hl⟩ := lookIn_ns hns
        have J : PySem.W.InstAt s.heap a oe D (some od) := ⟨hget, hz.1, nc, by rw [hz.2]; exact ho⟩
        exact PySem.W.kia_one (kitx_err C) I.kIn J e (fun z => nomatch z) fun tk => ⟨.bl b, H, I.kept (t' := tk) fun _ _ z => z, rfl, q⟩
end PX
/-! A def that may raise, told by two promises; statements never reached. -/
namespace PX
open PySem PySem.Spec PyProof.Rows L2 PL
section
variable {P : Program} {w : World} {K : PySem.W.Frag} {mg : Str → Option Value} {base : Heap} {k j : Nat} {f : Addr} {fd : FuncData} {ps : List Str}
theorem fn_cx {sp : Sp} (F : FnOk P w K mg base CX0 k f fd ps sp) : FnOk P w K mg base (L2.CX P w) k f fd ps sp := by
  refine ⟨F.len, fun A outer s H args us vs Q E hr e0 hb r hs => ?_⟩
  refine codeAny_mono (F.run A outer s H args us vs Q E hr e0 hb r hs) fun res s' z => ?_
  cases res with
  | ok fl => cases fl <;> exact z
  | error e => exact False.elim z
theorem fn_or {CX : CXT} {sp1 sp2 sp : Sp} (F1 : FnOk P w K mg base CX k f fd ps sp1) (F2 : FnOk P w K mg base CX k f fd ps sp2) (h : ∀ vs H Q E, sp vs H Q E → sp1 vs H Q E ∨ sp2 vs H Q E) : FnOk P w K mg base CX k f fd ps sp := by
  refine ⟨fun vs H Q E q => (h vs H Q E q).elim (F1.len vs H Q E) (F2.len vs H Q E), fun A outer s H args us vs Q E hr e0 hb r hs => ?_⟩
  rcases h vs H Q E hs with z | z
  · exact F1.run A outer s H args us vs Q E hr e0 hb r z
  · exact F2.run A outer s H args us vs Q E hr e0 hb r z
/-- statements never reached -/
theorem xNever {X : Cx} {sts : List Stmt} : XB K X sts (fun _ _ _ _ => False) (fun _ => none) := ⟨fun _ _ => ⟨fun _ _ _ _ _ _ h => h.elim⟩, fun _ _ _ _ _ _ _ _ _ _ e => by cases e⟩
end
end PX
namespace K01
open PX PySem L2 PySem.Spec PyProof.Rows PL PR
section
variable {P : Program} {w : World} {K : PySem.W.Frag} {mg : Str → Option Value} {base : Heap}
noncomputable def FX_need_plots (CBadPlots : Addr) : PL.Env → Option OutX := (xSeq (xIf (tO (tN (tE (e1 (gIsi "list") (eVarO 0)))) (tE (e2 (gB fun i j => decide (j < i)) (eA gLen (aCons (eVarO 0) aNil)) (eC (.int 12))))) (xRaise CBadPlots "bad plots, at " (eC .none)) (lft sNext))
    (xSeq (lft (sOwn (nLst aNil) 1))
    (xSeq (xFor (iEn (aCons (eVar 0) aNil)) (tgT 2 (tgCons (tgN 2) (tgCons (tgN 3) tgNil))) (xSeq (xIf (tN (tE (eA (fun ds => if ds.length = 2 then (f_is_pair ds).bind fun d => if noList d then some d else none else none) (aCons (eVarO 3) (aCons (eVarO 1) aNil))))) (xRaise CBadPlots "bad plots, at " (eVar 2)) (lft sNext))
    (lft (sApp 1 (e2 gIx (eVarO 3) (eC (.int 0)))))))
    (lft (sRetO 1)))))
noncomputable def fX_need_plots (CBadPlots : Addr) : List PyData → Option RX := fnX 4 (FX_need_plots CBadPlots)
theorem okX_need_plots {f : Addr} {fd : FuncData} (F : Fun K "need_plots" "need_plots" s_need_plots f fd) (T : Bt mg) {CBadPlots : Addr} (EBadPlots : AtC P w K mg base "BadPlots" CBadPlots "bad plots, at ") (Cis_pair : Cal P w K mg base 2 "is_pair" 2 ["pair", "ahead"] f_is_pair) : FnOk P w K mg base (L2.CX P w) 3 f fd ["plots"] (spX K 1 (fX_need_plots CBadPlots)) := by
  exact fn_denX (N := N_need_plots) F sc_need_plots (by decide) fun cdv A outer s H E hr => by
    have hu : (A.deeper (envOfC "need_plots" (defScope s_need_plots) s.heap.objs.size f cdv)).units + 65 < cLine := by have := hr.un; omega
    have hv : (A.deeper (envOfC "need_plots" (defScope s_need_plots) s.heap.objs.size f cdv)).units + 1 < cLine := by omega
    exact ⟨_, (xC_ (xIf_ (EW.tt (wO (tNot_ (tVal (EP.o (fIsi "list" T.isinstance T.list (ha := (vO 0)))))) (wO1 (tcmp kGt (EP.o (fLen T.len (ha := (xC (vO 0) xN)))) (EP.o (gInt_ T.MOST_PLOTS)))))) (x1 (xRaise_ EBadPlots hr (by decide) cN)) x0)
    (xC_ (XS.of (zOwn 1 sc_need_plots.nd (dLst yN)))
    (xC_ (xFor_ (S := [2, 3]) (passes_of rfl) (iEn_ T.enumerate (yC (vP 0) yN)) (gT (gsC (gN 2 sc_need_plots.nd) (gsC (gN 3 sc_need_plots.nd) gs0))) (xC_ (xIf_ (tNot_ (tVal (EP.o (cal1X Cis_pair hr (by decide) (xC (vO 3) (xC (vO 1) xN)))))) (x1 (xRaise_ EBadPlots hr (by decide) (vP 2))) x0)
    (x1 (XS.of (zApp 1 (vO 1) (ixx (vO 3) (EP.o cI)))))))
    (x1 (XS.of (zRetO 1 (vO 1)))))))⟩

noncomputable def FX_need_rows (CBadRows : Addr) : PL.Env → Option OutX := (xSeq (xIf (tO (tN (tE (e1 (gIsi "list") (eVarO 1)))) (tE (e2 (gB fun i j => decide (j < i)) (eA gLen (aCons (eVarO 1) aNil)) (eC (.int 60))))) (xRaise CBadRows "bad rows, at " (eC .none)) (lft sNext))
    (xSeq (xFor (iEn (aCons (eVar 1) aNil)) (tgT 2 (tgCons (tgN 2) (tgCons (tgN 3) tgNil))) (xIf (tN (tE (eA (fun ds => if ds.length = 3 then f_is_row ds else none) (aCons (eVar 3) (aCons (eVar 0) (aCons (eA gLen (aCons (eVarO 1) aNil)) aNil)))))) (xRaise CBadRows "bad rows, at " (eVar 2)) (lft sNext)))
    (lft (sRet (eC (.bool true))))))
noncomputable def fX_need_rows (CBadRows : Addr) : List PyData → Option RX := fnX 4 (FX_need_rows CBadRows)
theorem okX_need_rows {f : Addr} {fd : FuncData} (F : Fun K "need_rows" "need_rows" s_need_rows f fd) (T : Bt mg) {CBadRows : Addr} (EBadRows : AtC P w K mg base "BadRows" CBadRows "bad rows, at ") (Cis_row : Cal P w K mg base 4 "is_row" 3 ["row", "names", "last"] f_is_row) : FnOk P w K mg base (L2.CX P w) 5 f fd ["names", "rows"] (spX K 2 (fX_need_rows CBadRows)) := by
  exact fn_denX (N := N_need_rows) F sc_need_rows (by decide) fun cdv A outer s H E hr => by
    have hu : (A.deeper (envOfC "need_rows" (defScope s_need_rows) s.heap.objs.size f cdv)).units + 65 < cLine := by have := hr.un; omega
    have hv : (A.deeper (envOfC "need_rows" (defScope s_need_rows) s.heap.objs.size f cdv)).units + 1 < cLine := by omega
    exact ⟨_, (xC_ (xIf_ (EW.tt (wO (tNot_ (tVal (EP.o (fIsi "list" T.isinstance T.list (ha := (vO 1)))))) (wO1 (tcmp kGt (EP.o (fLen T.len (ha := (xC (vO 1) xN)))) (EP.o (gInt_ T.MOST_ROWS)))))) (x1 (xRaise_ EBadRows hr (by decide) cN)) x0)
    (xC_ (xFor_ (S := [2, 3]) (passes_of rfl) (iEn_ T.enumerate (yC (vP 1) yN)) (gT (gsC (gN 2 sc_need_rows.nd) (gsC (gN 3 sc_need_rows.nd) gs0))) (x1 (xIf_ (tNot_ (tVal (EP.o (cal1 Cis_row hr (by decide) (yC (vP 3) (yC (vP 0) (yC (fLen T.len (ha := (xC (vO 1) xN))) yN))))))) (x1 (xRaise_ EBadRows hr (by decide) (vP 2))) x0)))
    (x1 (XS.of (zRet cB)))))⟩

noncomputable def FX_need (CBadPlots : Addr) (CBadRows : Addr) : PL.Env → Option OutX := (xSeq (xAsg (fun env => ((aCons (eVar 0) aNil) env).bind fun ds => if ds.length = 1 then fX_need_plots CBadPlots ds else none) 2)
    (xRet (fun env => ((aCons (eVar 2) (aCons (eVar 1) aNil)) env).bind fun ds => if ds.length = 2 then fX_need_rows CBadRows ds else none)))
noncomputable def fX_need (CBadPlots : Addr) (CBadRows : Addr) : List PyData → Option RX := fnX 3 (FX_need CBadPlots CBadRows)
theorem okX_need {f : Addr} {fd : FuncData} (F : Fun K "need" "need" s_need f fd) (T : Bt mg) {CBadPlots : Addr} {CBadRows : Addr} (Xneed_plots : CalX P w K mg base 3 "need_plots" 1 ["plots"] (fX_need_plots CBadPlots)) (Xneed_rows : CalX P w K mg base 5 "need_rows" 2 ["names", "rows"] (fX_need_rows CBadRows)) : FnOk P w K mg base (L2.CX P w) 6 f fd ["plots", "rows"] (spX K 2 (fX_need CBadPlots CBadRows)) := by
  exact fn_denX (N := N_need) F sc_need (by decide) fun cdv A outer s H E hr => by
    have hu : (A.deeper (envOfC "need" (defScope s_need) s.heap.objs.size f cdv)).units + 65 < cLine := by have := hr.un; omega
    have hv : (A.deeper (envOfC "need" (defScope s_need) s.heap.objs.size f cdv)).units + 1 < cLine := by omega
    exact ⟨_, (xC_ (xAsg_ 2 sc_need.nd (calX Xneed_plots hr (by decide) (yC (vP 0) yN)))
    (x1 (xRet_ (calX Xneed_rows hr (by decide) (yC (vP 2) (yC (vP 1) yN))))))⟩

end
end K01
/-! try as a statement of the layer; the readings of its suites. -/
namespace PX
open PySem PySem.Spec PyProof.Rows L2 PL
def ErrS.cls : ErrS → Addr
  | .at_ C _ => C
  | .bare C => C
section
variable {K : PySem.W.Frag} {D C : Addr} {b : Bool}
/-- what the written part tells of an error class -/
structure ErrF (K : PySem.W.Frag) (C : Addr) : Prop where
  exc : ExcC K C
  ty : PySem.W.typeIn K (.ref C) = some (.type "type")
  self : PySem.W.subIn K (.ref C) (.ref C) = some true
  sv : PySem.W.subIn K (.ref C) (.type "ValueError") = some true
theorem ErrF.isC (F : ErrF K C) : ((PySem.W.clsIn K C).isSome && PySem.W.typeIn K (.ref C) == some (.type "type")) = true := by
  obtain ⟨cd, hc, _⟩ := PySem.W.any_some F.exc.hd
  rw [hc, F.ty] <;> rfl
theorem kit_own (F : ErrF K C) (h : PySem.W.subIn K (.ref D) (.ref C) = some b) : PySem.W.kitOne K (.ref D) (.ref C) = some b := by
  unfold PySem.W.kitOne
  by_cases e : D = C
  · subst e
    rw [F.self] at h
    cases h
    rw [if_pos (by simp)]
  · have e' : (Value.ref D == Value.ref C) = false := by simpa using e
    rw [e', if_neg Bool.false_ne_true]
    exact (if_pos F.isC).trans h
theorem kit_ve (F : ErrF K D) : PySem.W.kitOne K (.ref D) (.type "ValueError") = some true := by
  have e : (Value.ref D == Value.type "ValueError") = false := rfl
  unfold PySem.W.kitOne
  rw [e, if_neg Bool.false_ne_true]
  show (if PySem.W.kitMeta "ValueError" = true then PySem.W.subIn K (.ref D) (.type "ValueError") else none) = some true
  rw [if_pos (show PySem.W.kitMeta "ValueError" = true by decide +kernel)]
  exact F.sv
theorem exm_own (F : ErrF K C) (h : PySem.W.subIn K (.ref D) (.ref C) = some b) : PySem.W.exmOne K (.ref D) (.ref C) = some b := PySem.W.exm_ref F.exc.hs F.exc.hd F.ty h
end
/-! ### readings of a suite -/
abbrev isRead (K : PySem.W.Frag) (a : Addr) (cls : Value) (d : Option Addr) (i : Nat) (c : V) : TE := tCB (rIsX K a cls d) (tCons (tVar i) (tCons (tC c) tNil))
def atRead (K : PySem.W.Frag) (a : Addr) (cls : Value) (d : Option Addr) (i : Nat) : TE := fun σ H Q => σ[i]? = some (some (.ref a)) ∧ ∃ (C : Addr) (dd : Addr) (fs : List (Str × V)) (v : V), cls = .ref C ∧ XfC K C ∧ PySem.W.findIn K (.ref C) "at" = some none ∧ d = some dd ∧ H dd = some (.xd fs) ∧ fs.lookup ("at" : Str) = some v ∧ Q v H
section
variable {X : Cx} {a : Addr} {cls : Value} {d : Option Addr} {oe : Obj} {pn : List (Addr × Obj)} {i : Nat} {n y : Str} {c : V} {u : Value} {p q q2 pos : Pos}
theorem pe_isG (hz : Zc cls d oe) (hf : ∃ vs, oe.data = .fields vs) (hm : X.mg "isinstance" = none) (hn : X.N[i]? = some n) (hv : X.env.scope.names.lookup n = some .local) (hy : X.mg y = some u) (r : RelV c u) (hg : Gl X "isinstance" := by rfl) (hgy : Gl X y := by rfl)
    (hd : (n == ("__debug__" : Str)) = false := by decide) (hd2 : (n == ("__classdict__" : Str)) = false := by decide) (hdy : (y == ("__debug__" : Str)) = false := by decide)
    (he : starEach (.Name n q :: [.Name y q2]) X.env = (false, eval (.Name n q) X.env) :: starEach [.Name y q2] X.env := by rfl) (hs2 : starEach [.Name y q2] X.env = (false, eval (.Name y q2) X.env) :: starEach [] X.env := by rfl) (hpl : (backTo pos (starEach [.Name y q2] X.env)).any (·.1) = false := by rfl) :
    PE (X.suite a ((a, oe) :: pn)) (.Call (.Name "isinstance" p) [.Name n q, .Name y q2] [] pos) (isRead X.K a cls d i c) :=
  pe_callB (X := X.suite a ((a, oe) :: pn)) (call_isX hz hf) hg hm (by decide +kernel) (pa_cons (pe_var hn (.inl hv) hd hd2) (pa_cons (pe_glob (X := X.suite a ((a, oe) :: pn)) hgy hy r hdy) pa_nil hs2) he) (by decide) (by decide) he hpl
theorem pe_isB (hz : Zc cls d oe) (hf : ∃ vs, oe.data = .fields vs) (hm : X.mg "isinstance" = none) (hn : X.N[i]? = some n) (hv : X.env.scope.names.lookup n = some .local) (hy : X.mg y = none) (hb : bootBuiltins y = some u) (r : RelV c u) (hg : Gl X "isinstance" := by rfl) (hgy : Gl X y := by rfl)
    (hd : (n == ("__debug__" : Str)) = false := by decide) (hd2 : (n == ("__classdict__" : Str)) = false := by decide) (hdy : (y == ("__debug__" : Str)) = false := by decide) (hny : y ≠ "__name__" := by decide)
    (he : starEach (.Name n q :: [.Name y q2]) X.env = (false, eval (.Name n q) X.env) :: starEach [.Name y q2] X.env := by rfl) (hs2 : starEach [.Name y q2] X.env = (false, eval (.Name y q2) X.env) :: starEach [] X.env := by rfl) (hpl : (backTo pos (starEach [.Name y q2] X.env)).any (·.1) = false := by rfl) :
    PE (X.suite a ((a, oe) :: pn)) (.Call (.Name "isinstance" p) [.Name n q, .Name y q2] [] pos) (isRead X.K a cls d i c) :=
  pe_callB (X := X.suite a ((a, oe) :: pn)) (call_isX hz hf) hg hm (by decide +kernel) (pa_cons (pe_var hn (.inl hv) hd hd2) (pa_cons (pe_bltn (X := X.suite a ((a, oe) :: pn)) hgy hy hb r hny hdy) pa_nil hs2) he) (by decide) (by decide) he hpl
theorem pe_atR (hz : Zc cls d oe) (hf : ∃ vs, oe.data = .fields vs) (hn : X.N[i]? = some n) (hv : X.env.scope.names.lookup n = some .local)
    (hd : (n == ("__debug__" : Str)) = false := by decide) (hd2 : (n == ("__classdict__" : Str)) = false := by decide) (hb : attributeBase (.Name n q) "at" X.env (eval (.Name n q) X.env) = eval (.Name n q) X.env := by rfl) :
    PE (X.suite a ((a, oe) :: pn)) (.Attribute (.Name n q) "at" pos) (atRead X.K a cls d i) := by
  refine ⟨fun pins s σ H Q I h => ?_⟩
  obtain ⟨hσ, C, dd, fs, v, hc, T, hno, hdd, hx, hl, q⟩ := h
  exact (pe_xf (X := X) T hno hz hf (pe_var (X := X.suite a ((a, oe) :: pn)) hn (.inl hv) hd hd2) hb).run pins s σ H Q I ⟨_, hσ, rfl, hc, dd, fs, v, hdd, hx, hl, q⟩
end
section
variable {K : PySem.W.Frag} {a : Addr} {cls : Value} {dO : Option Addr} {i : Nat} {c : V} {cv : Value} {b : Bool} {σ : L2.St} {H : Hp} {Q : VK} {e : ErrS}
theorem ErrOk.cl (h : ErrOk e cls dO H) : cls = .ref e.cls := by
  cases e with
  | at_ C d => exact h.1
  | bare C => exact h.1
theorem isRead_of (hσ : σ[i]? = some (some (.ref a))) (he : ErrOk e cls dO H) (F : ExcC K e.cls) (hcv : ∀ u, RelV c u → u = cv) (hk : PySem.W.kitOne K (.ref e.cls) cv = some b) (q : Q (.bl b) H) : isRead K a cls dO i c σ H Q := by
  refine ⟨_, hσ, e.cls, c, cv, b, he.cl, F, rfl, hcv, hk, ?_, q⟩
  cases e with
  | at_ C d =>
    obtain ⟨_, dx, v, h1, h2, _⟩ := he
    exact .inr ⟨dx, _, h1, h2⟩
  | bare C => exact .inl he.2
theorem atRead_of {C : Addr} {d : PyData} (hσ : σ[i]? = some (some (.ref a))) (he : ErrOk (.at_ C d) cls dO H) (T : XfC K C) (hno : PySem.W.findIn K (.ref C) "at" = some none) (q : ∀ v, ((v = .non ∧ d = PyData.none) ∨ ∃ i, v = .int i ∧ d = .int i) → Q v H) : atRead K a cls dO i σ H Q := by
  obtain ⟨hc, dx, v, h1, h2, h3⟩ := he
  exact ⟨hσ, C, dx, _, v, hc, T, hno, h1, h2, rfl, q v h3⟩
end
/-! ### the statement -/
/-- what the clauses give of an error, where all is well behind them -/
def DenH (K : PySem.W.Frag) (l : List Clause) (h : ErrS → PL.Env → Option Out) : Prop := ∀ base O0 O σ H env e o (D : Ends) cls dO, Sat K base O0 O σ H env → ErrOk e cls dO H → h e env = some o → Post K base O0 (vis O H) D o → wClauses K (fun _ _ _ _ => False) D l cls dO σ H
def sTry (F : PL.Env → Option OutX) (h : ErrS → PL.Env → Option Out) : PL.Env → Option Out := fun env => (F env).bind fun
  | .ok o => some o
  | .any => none
  | .er e en => h e en
theorem zTry {K : PySem.W.Frag} {X : Cx} {body : List Stmt} {h₀ : ExceptHandler} {hds : List ExceptHandler} {l : List Clause} {pos : Pos} {tb : WX → TS} {F : PL.Env → Option OutX} {h : ErrS → PL.Env → Option Out} (hs : X.stack = X.env :: X.outer) (hf : X.env.frame = some X.env.locals) (hK : X.K = K)
    (hb : ∀ (pn : List (Addr × Obj)) (xe : Value → Shared → Prop), PassesOwn (model X.prog X.w) X.A X.env xe → XB K (X.tr pn xe) body tb F) (hh : ClausesOk X (h₀ :: hds) l) (hd : DenH K l h) :
    ES K X (.Try body (h₀ :: hds) [] [] pos) (fun D σ H => tb (wClauses X.K (fun _ _ _ _ => False) D l) D σ H) (sTry F h) := by
  subst hK
  refine ⟨ps_try_clauses hs hf takes0 (fun W pn xe tk hp => (hb pn xe hp).pe W tk) hh, ?_⟩
  intro base O0 O σ H env o D S e P
  unfold sTry at e
  cases k : F env with
  | none => rw [k] at e; cases e
  | some o1 =>
    rw [k, Option.bind_some] at e
    refine (hb [] (fun _ _ => False) PassesOwn.never).de base O0 O σ H env o1 D _ S k ?_
    cases o1 with
    | ok o1 => cases e; exact P
    | any => cases e
    | er er en => exact fun cls dO O2 σ2 H2 x S2 z => hd base O0 O2 σ2 H2 en er o D cls dO S2 z e (P.mono x)
end PX
/-! tuple(x); x in a tuple of nested things. -/
namespace PX
open PySem PySem.Spec PyProof.Rows L2 PL
def rInDT (K : PySem.W.Frag) : R2 := fun x y H Q => ∃ d ds, Dp K H x d ∧ Dp K H y (.tuple ds) ∧ SeqAt.shaped d = true ∧ SeqAt.shaped (.tuple ds) = true ∧ Q (.bl (ds.any fun z => PyData.eqv z d)) H
theorem op_inDT {X : Cx} (hu : X.A.units + 65 < cLine) : OpR X (compareOp .In) (rInDT X.K) := by
  intro pins s σ H x y v u Q I rx ry h
  obtain ⟨d, ds, hd, he, sd, se, q⟩ := h
  obtain ⟨as, r1⟩ := Dp.reads I d x v hd rx
  obtain ⟨bs, r2⟩ := Dp.reads I (.tuple ds) y u he ry
  exact SeqAt.in_tuple_reads r2 r1 (SeqAt.canLay_of_shaped se) (SeqAt.canLay_of_shaped sd) (room_in_shaped sd hu) ⟨.bl _, H, I, rfl, q⟩
def gInDT : PyData → PyData → Option PyData := fun x y => match y with
  | .tuple ds => if SeqAt.shaped x && SeqAt.shaped (.tuple ds) then some (.bool (ds.any fun z => PyData.eqv z x)) else none
  | _ => none
theorem ok_inDT {K : PySem.W.Frag} : Ok2 K (rInDT K) gInDT := by
  intro O H x y d e z al o1 o2 h Q q
  unfold gInDT at h
  split at h
  · split at h
    · rename_i k
      rw [Bool.and_eq_true] at k
      cases h
      exact ⟨d, _, o1.rp.dp (SeqAt.canLay_of_shaped k.1), o2.rp.dp (SeqAt.canLay_of_shaped k.2), k.1, k.2, q _ H (Ex.refl H) (.bl _)⟩
    · cases h
  · cases h
theorem kInDT {K : PySem.W.Frag} {X : Cx} (hu : X.A.units + 65 < cLine) (hK : X.K = K := by rfl) : OpR X (compareOp .In) (rInDT K) ∧ Ok2 K (rInDT K) gInDT := by
  subst hK
  exact ⟨op_inDT hu, ok_inDT⟩
def gTup : List PyData → Option PyData
  | [.list ds] => some (.tuple ds)
  | [.tuple ds] => some (.tuple ds)
  | _ => none
def rTup (K : PySem.W.Frag) : List V → Hp → VK → Prop := fun xs H Q => ∃ p ys, xs = [.ref p] ∧ ((SqL K H p ys ∧ ∀ l, H l = none → Q (.ref l) (upd H l (.tup ys))) ∨ (SqT K H p ys ∧ Q (.ref p) H))
section
variable {K : PySem.W.Frag} {X : Cx} {e : Expr} {es : List Expr} {tr : TA} {fr : PL.Env → Option (List PyData)} {p pos : Pos}
theorem den_tupOf (h : DenAP K tr fr) : DenP K (tCB (rTup K) tr) (eA gTup fr) := by
  intro base O0 O σ H env d S e Q q
  unfold eA at e
  cases k1 : fr env with
  | none => rw [k1] at e; cases e
  | some xs =>
    rw [k1, Option.bind_some] at e
    unfold gTup at e
    split at e
    · rename_i ds
      cases e
      refine h base O0 O σ H env _ S k1 _ fun vs H1 x1 r => ?_
      cases r with
      | cons r t =>
        cases t
        cases r with
        | @lst _ ws _ hl ra =>
          refine ⟨_, _, rfl, .inl ⟨SqL.of (vis_le _ _ hl), fun l hn => ?_⟩⟩
          have ex : Ex H1 (upd H1 l (.tup ws)) := Ex.new hn
          have S1 := S.mono x1
          refine q _ _ (x1.trans ex) (.tup (SqT.of (vis_at ?_ upd_same)) (ra.mono (vis_mono ex)))
          exact hid_free S1 hn
    · rename_i ds
      cases e
      refine h base O0 O σ H env _ S k1 _ fun vs H1 x1 r => ?_
      cases r with
      | cons r t =>
        cases t
        cases r with
        | tup hl ra => exact ⟨_, _, rfl, .inr ⟨ex_t vis_le hl, q _ _ x1 (.tup hl ra)⟩⟩
    · cases e
theorem fTup (hm : X.mg "tuple" = none) (hg : Gl X "tuple" := by rfl) (ha : EB K X (e :: es) tr fr) (he : starEach (e :: es) X.env = (false, eval e X.env) :: starEach es X.env := by rfl) (hpl : (backTo pos (starEach es X.env)).any (·.1) = false := by rfl) (hK : X.K = K := by rfl) :
    EP K X (.Call (.Name "tuple" p) (e :: es) [] pos) (tCB (rTup K) tr) (eA gTup fr) := by
  subst hK
  exact ⟨pe_callTy call_tuple_of hg hm (by decide +kernel) ha.pe (by decide) (by decide) he hpl, den_tupOf ha.de⟩
end
end PX
set_option maxHeartbeats 1000000
/-! zip of a text (ascii) and a tuple. -/
namespace PXZ
open PySem PySem.Spec PyProof.Rows L2 RZ
open PySem.Sem (wp)
section
variable {prog : Program} {w : World} {A : Around} {E : Value → Shared → Prop} {s : Shared}
abbrev AscIt (h : Heap) (it : Addr) (x : Str) (t : Tok) (i : Nat) : Prop := h.IsStrIter it "str_ascii_iterator" x t i
theorem nx_item {it : Addr} {x : Str} {t : Tok} {i c : Nat} {Q : Value → Shared → Prop} (hit : AscIt s.heap it x t i) (hx : x.cps[i]? = some c)
    (hQ : ∀ h', AscIt h' it x t (i + 1) → Heap.SameBut it s.heap h' → Q (.str ⟨#[c]⟩ s.toks) { s with heap := h', toks := s.toks + 1 }) :
    wpAny (model prog w) A (Builtin.SmallTypes.nextOf (.ref it)) Q E s := by
  obtain ⟨o, ho, hc, hd⟩ := id hit
  unfold Builtin.SmallTypes.nextOf
  refine wpAny_bind (wpAny_callSpecial?_slot (name := Str.ofString "__next__") hit.typeIs F.slot_str_ascii_iterator_next
    (wpAny_call_entry F.slot_str_ascii_iterator_next hit.typeIs F.entry_str_ascii_iterator_next ?_ (F.args_str_ascii_iterator_next_1 _)))
  show wpAny _ _ (field (.ref it) 0 >>= _) _ _ s
  refine wpAny_bind (wpAny_field ho hd (x := .str x t) rfl ?_)
  show wpAny _ _ (field (.ref it) 1 >>= _) _ _ s
  refine wpAny_bind (wpAny_field ho hd (x := .int i 0) rfl ?_)
  simp only [Int.toNat_natCast, hx]
  refine wpAny_bind (wpAny_setField ho hd (by simp) (wpAny_bind (wpAny_mkStr (wpAny_pure ⟨_, rfl, wpAny_pure (hQ _ ?_ (Heap.SameBut.update ..))⟩) (by show 1 ≤ sizeLine; decide))))
  exact ⟨_, Heap.get?_update_self _ ho (Obj.isFreed_of_fields (Obj.data_mapFields hd _)), (Obj.cls_mapFields ..).trans hc, by
    rw [Obj.data_mapFields hd]; simp [rawInt]⟩
theorem nx_end {it : Addr} {x : Str} {t : Tok} {i : Nat} {Q : Value → Shared → Prop} (hh : A.handled = none) (hit : AscIt s.heap it x t i) (hx : x.cps[i]? = none)
    (hE : ∀ h' e, Heap.ExtBut it s.heap h' → (∃ o, h'.get? e = some o ∧ o.cls = .type "StopIteration") → E (.ref e) { s with heap := h' }) :
    wpAny (model prog w) A (Builtin.SmallTypes.nextOf (.ref it)) Q E s := by
  obtain ⟨o, ho, hc, hd⟩ := id hit
  unfold Builtin.SmallTypes.nextOf
  refine wpAny_bind (wpAny_callSpecial?_slot (name := Str.ofString "__next__") hit.typeIs F.slot_str_ascii_iterator_next
    (wpAny_call_entry F.slot_str_ascii_iterator_next hit.typeIs F.entry_str_ascii_iterator_next ?_ (F.args_str_ascii_iterator_next_1 _)))
  show wpAny _ _ (field (.ref it) 0 >>= _) _ _ s
  refine wpAny_bind (wpAny_field ho hd (x := .str x t) rfl ?_)
  show wpAny _ _ (field (.ref it) 1 >>= _) _ _ s
  refine wpAny_bind (wpAny_field ho hd (x := .int i 0) rfl ?_)
  simp only [Int.toNat_natCast, hx]
  refine wpAny_bind (wpAny_rule (wpAny_bind (wpAny_setField ho hd (by simp) (wpAny_bind (wpAny_letGo ?_)))))
  show wpAny _ _ (newExc (.type "StopIteration") [] >>= _) _ _ _
  refine wpAny_bind ?_
  simp only [newExc, newTuple]
  refine wpAny_bind (wpAny_newObj_type ?_ (by size_fits))
  refine wpAny_bind (m := firstArgMember _ _) (wpAny_of_eq (a := Value.none) (by first | rfl | (simp only [firstArgMember]; rfl)) ?_)
  refine wpAny_newObj_type ?_ (by size_fits)
  simp only [raiseNew]
  refine wpAny_bind (wpAny_handled ?_)
  first | rw [show A.in1.handled = none from hh] | rw [hh]
  refine wpAny_bind (wpAny_pure (wpAny_throw ?_))
  exact hE _ _ (((Heap.SameBut.update ..).extBut.push _).push _) ⟨_, Heap.get?_push_size _ rfl, rfl⟩
theorem zipS_next_item {z TI TO i1 i2 l2 : Addr} {zx : Str} {zt : Tok} {k1 k2 : Nat} {c1 : Nat} {ys : Array Value} {y a b : Value} {Q : Value → Shared → Prop} (D : ZipApart z TI TO i1 i2 l2 l2)
    (hz : IsZip s.heap z TI TO .none) (hTI : IsPair s.heap TI (.ref i1) (.ref i2)) (hTO : IsPair s.heap TO a b)
    (h1 : AscIt s.heap i1 zx zt k1) (h2 : s.heap.IsTupleIter i2 l2 k2) (hl2 : s.heap.IsTuple l2 ys) (hx : zx.cps[k1]? = some c1) (hy : ys[k2]? = some y)
    (hQ : ∀ h', IsZip h' z TI TO (rawInt s.heap.objs.size) → IsPair h' TO (.str ⟨#[c1]⟩ s.toks) y → AscIt h' i1 zx zt (k1 + 1) → h'.IsTupleIter i2 l2 (k2 + 1) → IsPair h' s.heap.objs.size (.str ⟨#[c1]⟩ s.toks) y → h'.objs.size = s.heap.objs.size + 1 →
      (∀ c o, c ≠ z → c ≠ TO → c ≠ i1 → c ≠ i2 → s.heap.get? c = some o → h'.get? c = some o) → Q (.ref s.heap.objs.size) { s with heap := h', toks := s.toks + 1 }) :
    wpAny (model prog w) A (Builtin.«zip.__next__» ⟨[.ref z], []⟩) (fun fin s' => ∃ v, fin = .done (.ret v) ∧ Q v s') E s := by
  show wpAny _ _ (field (.ref z) 2 >>= _) _ _ _
  refine wpAny_bind (wpAny_field hz rfl (x := .bool false) rfl ?_)
  show wpAny _ _ (field (.ref z) 3 >>= _) _ _ _
  refine wpAny_bind (wpAny_field hz rfl (x := .ref TI) rfl ?_)
  refine wpAny_bind (wpAny_seqItems hTI rfl ?_)
  show wpAny _ _ (Builtin.SmallTypes.ownedTupleIsFree (.ref z) >>= _) _ _ _
  refine wpAny_bind ?_
  unfold Builtin.SmallTypes.ownedTupleIsFree
  refine wpAny_bind (wpAny_field hz rfl (x := .none) rfl (wpAny_pure ?_))
  simp only [if_true]
  refine wpAny_bind (wpAny_rule ?_)
  refine wpAny_bind (wpAny_field hz rfl (x := .ref TO) rfl ?_)
  refine wpAny_bind (wpAny_setField_rec hz (by simp) fun h₁ hz₁ hs₁ => ?_)
  replace hz₁ : IsZip h₁ z TI TO .ellipsis := hz₁
  refine wpAny_bind ?_
  simp only [List.zipIdx_cons, List.zipIdx_nil, List.forIn_cons, List.forIn_nil]

  refine wpAny_bind (wpAny_bind (wpAny_onRaise ?_))
  show wpAny _ _ (Builtin.SmallTypes.nextOf (.ref i1) >>= _) _ _ _
  refine wpAny_bind (nx_item (h1.extBut hs₁.extBut D.i1z) hx fun h₂ h1₂ hs₂ => wpAny_pure ?_)
  have hTO₂ : IsPair h₂ TO a b := hs₂.extBut _ _ D.TOi1 (hs₁.extBut _ _ D.TOz hTO)
  refine wpAny_bind (wpAny_seqItems hTO₂ rfl ?_)
  refine wpAny_bind (wpAny_updateSeq_pair hTO₂ fun h₃ hTO₃ hs₃ => ?_)
  replace hTO₃ : IsPair h₃ TO (.str ⟨#[c1]⟩ s.toks) b := hTO₃
  refine wpAny_bind (wpAny_letGo (wpAny_pure ?_))

  refine wpAny_bind (wpAny_bind (wpAny_onRaise ?_))
  show wpAny _ _ (Builtin.SmallTypes.nextOf (.ref i2) >>= _) _ _ _
  refine wpAny_bind (nextOf_tuple_item (((h2.extBut hs₁.extBut D.i2z).extBut hs₂.extBut D.i12.symm).extBut hs₃.extBut D.TOi2.symm)
    (((hl2.extBut hs₁.extBut D.l2z).extBut hs₂.extBut D.l2i1).extBut hs₃.extBut D.l2TO) hy fun h₄ h2₄ hs₄ => wpAny_pure ?_)
  have hTO₄ : IsPair h₄ TO (.str ⟨#[c1]⟩ s.toks) b := hs₄.extBut _ _ D.TOi2 hTO₃
  refine wpAny_bind (wpAny_seqItems hTO₄ rfl ?_)
  refine wpAny_bind (wpAny_updateSeq_pair hTO₄ fun h₅ hTO₅ hs₅ => ?_)
  replace hTO₅ : IsPair h₅ TO (.str ⟨#[c1]⟩ s.toks) y := hTO₅
  refine wpAny_bind (wpAny_letGo (wpAny_pure (wpAny_pure ?_)))

  refine wpAny_bind (wpAny_seqItems hTO₅ rfl ?_)
  refine wpAny_bind (wpAny_newTuple ?_)
  have hsz : h₅.objs.size = s.heap.objs.size := by rw [hs₅.1, hs₄.1, hs₃.1, hs₂.1, hs₁.1]
  have hz₅ : IsZip h₅ z TI TO .ellipsis := hs₅.extBut _ _ D.TOz.symm (hs₄.extBut _ _ D.i2z.symm (hs₃.extBut _ _ D.TOz.symm (hs₂.extBut _ _ D.i1z.symm hz₁)))
  have hk₅ : ∀ c o, c ≠ z → c ≠ TO → c ≠ i1 → c ≠ i2 → s.heap.get? c = some o → h₅.get? c = some o := fun c o c1 c2 c3 c4 e =>
    hs₅.extBut _ _ c2 (hs₄.extBut _ _ c4 (hs₃.extBut _ _ c2 (hs₂.extBut _ _ c3 (hs₁.extBut _ _ c1 e))))
  have h1₅ : AscIt h₅ i1 zx zt (k1 + 1) := ((h1₂.extBut hs₃.extBut D.TOi1.symm).extBut hs₄.extBut D.i12).extBut hs₅.extBut D.TOi1.symm
  have h2₅ : h₅.IsTupleIter i2 l2 (k2 + 1) := h2₄.extBut hs₅.extBut D.TOi2.symm
  have hzlt : z < h₅.objs.size := Heap.lt_size hz₅
  have hTOlt : TO < h₅.objs.size := Heap.lt_size hTO₅
  have hi1lt : i1 < h₅.objs.size := by obtain ⟨_, e, _⟩ := h1₅; exact Heap.lt_size e
  have hi2lt : i2 < h₅.objs.size := by obtain ⟨_, e, _⟩ := h2₅; exact Heap.lt_size e
  show wpAny _ _ (Builtin.SmallTypes.ownedTupleHandOut (.ref z) (.ref h₅.objs.size) >>= _) _ _ _
  refine wpAny_bind ?_
  unfold Builtin.SmallTypes.ownedTupleHandOut
  have hz₆ : IsZip (h₅.push { cls := .type "tuple", data := .seq #[(.str ⟨#[c1]⟩ s.toks), y] }) z TI TO .ellipsis := Heap.get?_push_of_some _ hz₅
  refine wpAny_bind (wpAny_setField_rec hz₆ (by simp) fun h₇ hz₇ hs₇ => ?_)
  replace hz₇ : IsZip h₇ z TI TO (rawInt h₅.objs.size) := hz₇
  refine wpAny_setField_rec hz₇ (by simp) fun h₈ hz₈ hs₈ => ?_
  replace hz₈ : IsZip h₈ z TI TO (rawInt h₅.objs.size) := hz₈
  have up : ∀ c o, c ≠ z → h₅.get? c = some o → h₈.get? c = some o := fun c o c1 e => hs₈.extBut _ _ c1 (hs₇.extBut _ _ c1 (Heap.get?_push_of_some _ e))
  have hT₈ : IsPair h₈ h₅.objs.size (.str ⟨#[c1]⟩ s.toks) y := hs₈.extBut _ _ (Nat.ne_of_gt hzlt) (hs₇.extBut _ _ (Nat.ne_of_gt hzlt) (Heap.get?_push_size _ rfl))
  have hz8 : h₈.objs.size = h₅.objs.size + 1 := by rw [hs₈.1, hs₇.1, Heap.size_push]
  rw [hsz] at hz₈ hT₈ hz8
  refine wpAny_pure ⟨_, rfl, ?_⟩
  show Q (.ref h₅.objs.size) _
  rw [hsz]
  exact hQ h₈ hz₈ (up _ _ D.TOz hTO₅) (let ⟨o, e, r⟩ := h1₅; ⟨o, up _ o D.i1z e, r⟩) (h2₅.at fun o e => up _ o D.i2z e) hT₈ hz8 fun c o c1 c2 c3 c4 e => up c o c1 (hk₅ c o c1 c2 c3 c4 e)
theorem zipS_next_end {z TI TO i1 i2 l2 : Addr} {zx : Str} {zt : Tok} {k1 k2 : Nat} {ys : Array Value} {a b : Value} {Q : Fin → Shared → Prop} (hh : A.handled = none) (D : ZipApart z TI TO i1 i2 l2 l2)
    (hz : IsZip s.heap z TI TO .none) (hTI : IsPair s.heap TI (.ref i1) (.ref i2)) (hTO : IsPair s.heap TO a b)
    (h1 : AscIt s.heap i1 zx zt k1) (h2 : s.heap.IsTupleIter i2 l2 k2) (hl2 : s.heap.IsTuple l2 ys) (hend : zx.cps[k1]? = none ∨ ys[k2]? = none)
    (hE : ∀ h' e, (∀ c o, c ≠ z → c ≠ TO → c ≠ i1 → c ≠ i2 → s.heap.get? c = some o → h'.get? c = some o) → (∃ o, h'.get? e = some o ∧ o.cls = .type "StopIteration") → ∀ tk, E (.ref e) { s with heap := h', toks := tk }) :
    wpAny (model prog w) A (Builtin.«zip.__next__» ⟨[.ref z], []⟩) Q E s := by
  show wpAny _ _ (field (.ref z) 2 >>= _) _ _ _
  refine wpAny_bind (wpAny_field hz rfl (x := .bool false) rfl ?_)
  show wpAny _ _ (field (.ref z) 3 >>= _) _ _ _
  refine wpAny_bind (wpAny_field hz rfl (x := .ref TI) rfl ?_)
  refine wpAny_bind (wpAny_seqItems hTI rfl ?_)
  show wpAny _ _ (Builtin.SmallTypes.ownedTupleIsFree (.ref z) >>= _) _ _ _
  refine wpAny_bind ?_
  unfold Builtin.SmallTypes.ownedTupleIsFree
  refine wpAny_bind (wpAny_field hz rfl (x := .none) rfl (wpAny_pure ?_))
  simp only [if_true]
  refine wpAny_bind (wpAny_rule ?_)
  refine wpAny_bind (wpAny_field hz rfl (x := .ref TO) rfl ?_)
  refine wpAny_bind (wpAny_setField_rec hz (by simp) fun h₁ hz₁ hs₁ => ?_)
  replace hz₁ : IsZip h₁ z TI TO .ellipsis := hz₁
  refine wpAny_bind ?_
  simp only [List.zipIdx_cons, List.zipIdx_nil, List.forIn_cons, List.forIn_nil]
  refine wpAny_bind (wpAny_bind (wpAny_onRaise ?_))
  show wpAny _ _ (Builtin.SmallTypes.nextOf (.ref i1) >>= _) _ _ _
  cases hx : zx.cps[k1]? with
  | none =>
    refine wpAny_bind (nx_end hh (h1.extBut hs₁.extBut D.i1z) hx fun h₂ e hs₂ he => ?_)
    obtain ⟨oe, hoe, hce⟩ := he
    have hz₂ : IsZip h₂ z TI TO .ellipsis := hs₂ _ _ D.i1z.symm hz₁
    have hez : e ≠ z := fun x => by subst x; rw [hz₂] at hoe; cases hoe; simp at hce
    refine wpAny_setField_rec hz₂ (by simp) fun h₃ _ hs₃ => hE h₃ e (fun c o c1 _ c3 _ x => hs₃.extBut _ _ c1 (hs₂ _ _ c3 (hs₁.extBut _ _ c1 x))) ⟨oe, hs₃.extBut _ _ hez hoe, hce⟩ _
  | some x =>
    have hy : ys[k2]? = none := by rcases hend with h | h; rw [hx] at h; cases h; exact h
    refine wpAny_bind (nx_item (h1.extBut hs₁.extBut D.i1z) hx fun h₂ h1₂ hs₂ => wpAny_pure ?_)
    have hTO₂ : IsPair h₂ TO a b := hs₂.extBut _ _ D.TOi1 (hs₁.extBut _ _ D.TOz hTO)
    refine wpAny_bind (wpAny_seqItems hTO₂ rfl ?_)
    refine wpAny_bind (wpAny_updateSeq_pair hTO₂ fun h₃ hTO₃ hs₃ => ?_)
    refine wpAny_bind (wpAny_letGo (wpAny_pure ?_))
    refine wpAny_bind (wpAny_bind (wpAny_onRaise ?_))
    show wpAny _ _ (Builtin.SmallTypes.nextOf (.ref i2) >>= _) _ _ _
    refine wpAny_bind (nextOf_tuple_end hh (((h2.extBut hs₁.extBut D.i2z).extBut hs₂.extBut D.i12.symm).extBut hs₃.extBut D.TOi2.symm)
      (((hl2.extBut hs₁.extBut D.l2z).extBut hs₂.extBut D.l2i1).extBut hs₃.extBut D.l2TO) hy fun h₄ e hs₄ he => ?_)
    obtain ⟨oe, hoe, hce⟩ := he
    have hz₄ : IsZip h₄ z TI TO .ellipsis := hs₄ _ _ D.i2z.symm (hs₃.extBut _ _ D.TOz.symm (hs₂.extBut _ _ D.i1z.symm hz₁))
    have hez : e ≠ z := fun x => by subst x; rw [hz₄] at hoe; cases hoe; simp at hce
    refine wpAny_setField_rec hz₄ (by simp) fun h₅ _ hs₅ => hE h₅ e (fun c o c1 c2 c3 c4 x => hs₅.extBut _ _ c1 (hs₄ _ _ c4 (hs₃.extBut _ _ c2 (hs₂.extBut _ _ c3 (hs₁.extBut _ _ c1 x))))) ⟨oe, hs₅.extBut _ _ hez hoe, hce⟩ _

theorem pyNext_zipS_item {z TI TO i1 i2 l2 : Addr} {zx : Str} {zt : Tok} {k1 k2 : Nat} {c1 : Nat} {ys : Array Value} {y a b : Value} {Q : Option Value → Shared → Prop} (D : ZipApart z TI TO i1 i2 l2 l2)
    (hz : IsZip s.heap z TI TO .none) (hTI : IsPair s.heap TI (.ref i1) (.ref i2)) (hTO : IsPair s.heap TO a b)
    (h1 : AscIt s.heap i1 zx zt k1) (h2 : s.heap.IsTupleIter i2 l2 k2) (hl2 : s.heap.IsTuple l2 ys) (hx : zx.cps[k1]? = some c1) (hy : ys[k2]? = some y)
    (hQ : ∀ h', IsZip h' z TI TO (rawInt s.heap.objs.size) → IsPair h' TO (.str ⟨#[c1]⟩ s.toks) y → AscIt h' i1 zx zt (k1 + 1) → h'.IsTupleIter i2 l2 (k2 + 1) → IsPair h' s.heap.objs.size (.str ⟨#[c1]⟩ s.toks) y → h'.objs.size = s.heap.objs.size + 1 →
      (∀ c o, c ≠ z → c ≠ TO → c ≠ i1 → c ≠ i2 → s.heap.get? c = some o → h'.get? c = some o) → Q (some (.ref s.heap.objs.size)) { s with heap := h', toks := s.toks + 1 }) :
    wpAny (model prog w) A (pyNext (.ref z)) Q E s := by
  have hT : s.TypeIs (.ref z) "zip" := ⟨_, hz, rfl⟩
  unfold pyNext
  exact wpAny_bind (wpAny_attempt (wpAny_callSpecial?_slot (name := Str.ofString "__next__") hT F.slot_zip_next
    (wpAny_call_entry F.slot_zip_next hT F.entry_zip_next
      (zipS_next_item D hz hTI hTO h1 h2 hl2 hx hy fun h' a1 a2 a3 a4 a5 a6 a7 => wpAny_pure (hQ h' a1 a2 a3 a4 a5 a6 a7)) (F.args_zip_next_1 _))))

theorem pyNext_zipS_end {z TI TO i1 i2 l2 : Addr} {zx : Str} {zt : Tok} {k1 k2 : Nat} {ys : Array Value} {a b : Value} {Q : Option Value → Shared → Prop} (hh : A.handled = none) (D : ZipApart z TI TO i1 i2 l2 l2)
    (hz : IsZip s.heap z TI TO .none) (hTI : IsPair s.heap TI (.ref i1) (.ref i2)) (hTO : IsPair s.heap TO a b)
    (h1 : AscIt s.heap i1 zx zt k1) (h2 : s.heap.IsTupleIter i2 l2 k2) (hl2 : s.heap.IsTuple l2 ys) (hend : zx.cps[k1]? = none ∨ ys[k2]? = none)
    (hQ : ∀ h', (∀ c o, c ≠ z → c ≠ TO → c ≠ i1 → c ≠ i2 → s.heap.get? c = some o → h'.get? c = some o) → ∀ tk, Q none { s with heap := h', toks := tk }) : wpAny (model prog w) A (pyNext (.ref z)) Q E s := by
  have hT : s.TypeIs (.ref z) "zip" := ⟨_, hz, rfl⟩
  unfold pyNext
  refine wpAny_bind (wpAny_attempt (wpAny_callSpecial?_slot (name := Str.ofString "__next__") hT F.slot_zip_next
    (wpAny_call_entry F.slot_zip_next hT F.entry_zip_next (zipS_next_end hh D hz hTI hTO h1 h2 hl2 hend fun h' e hk he tk => ?_) (F.args_zip_next_1 _))))
  obtain ⟨o, ho, hc⟩ := he
  refine wpAny_bind (wpAny_isInstance (T := "StopIteration") (b := true) ⟨o, ho, hc⟩ isSubtype_stop ?_)
  exact wpAny_pure (hQ _ hk _)
end
abbrev zipSH1 (h : Heap) (zx : Str) (zt : Tok) : Heap := h.push { cls := .type "str_ascii_iterator", data := .fields #[.str zx zt, .int 0 0] }
abbrev zipSH2 (h : Heap) (zx : Str) (zt : Tok) (l2 : Addr) : Heap := (zipSH1 h zx zt).push { cls := .type "tuple_iterator", data := .fields #[.ref l2, .int 0 0] }
abbrev zipSH3 (h : Heap) (zx : Str) (zt : Tok) (l2 : Addr) : Heap := (zipSH2 h zx zt l2).push { cls := .type "tuple", data := .seq #[.ref h.objs.size, .ref (zipSH1 h zx zt).objs.size] }
abbrev zipSH4 (h : Heap) (zx : Str) (zt : Tok) (l2 : Addr) : Heap := (zipSH3 h zx zt l2).push { cls := .type "tuple", data := .seq #[.none, .none] }
abbrev zipSH5 (h : Heap) (zx : Str) (zt : Tok) (l2 : Addr) : Heap := (zipSH4 h zx zt l2).push { cls := .type "zip", data := .fields #[.none, .bool false, .bool false, .ref (zipSH2 h zx zt l2).objs.size, .ref (zipSH3 h zx zt l2).objs.size] }

theorem meets_zipS_new (zx : Str) (zt : Tok) (l2 : Addr) (ys : Array Value) (hz : zx.cps.all (· < 128) = true) :
    Meets (Builtin.«zip.__new__» ⟨[.type "zip", .str zx zt, .ref l2], []⟩) (fun _ R s => s.heap.IsTuple l2 ys ∧
      R (.ok (.ret (.ref (zipSH4 s.heap zx zt l2).objs.size))) { s with heap := zipSH5 s.heap zx zt l2 }) :=
  .of_wp fun prog w A R s h => by
    obtain ⟨hp, g, d, tk, os⟩ := s; obtain ⟨hl2, h⟩ := h
    have hsub := sub_zip
    have hL2 : Heap.IsTuple (Shared.heap ⟨hp.push { cls := .type "str_ascii_iterator", data := .fields #[.str zx zt, .int 0 0] }, g, d, tk, os⟩) l2 ys := Heap.IsTuple.push hl2 _
    wp_walk using wpAny_pyIter_ascii hz, wpAny_pyIter_tuple hL2
    exact ⟨_, rfl, h⟩

section
variable {prog : Program} {w : World} {A : Around} {E : Value → Shared → Prop} {s : Shared}

theorem call_zipS {l2 : Addr} {zx : Str} {zt : Tok} {ys : Array Value} {Q : Value → Shared → Prop} (hz : zx.cps.all (· < 128) = true) (hl2 : s.heap.IsTuple l2 ys)
    (h : ∀ h', IsZip h' (s.heap.objs.size + 4) (s.heap.objs.size + 2) (s.heap.objs.size + 3) .none → IsPair h' (s.heap.objs.size + 2) (.ref s.heap.objs.size) (.ref (s.heap.objs.size + 1)) →
      IsPair h' (s.heap.objs.size + 3) .none .none → AscIt h' s.heap.objs.size zx zt 0 → h'.IsTupleIter (s.heap.objs.size + 1) l2 0 → h'.objs.size = s.heap.objs.size + 5 →
      (∀ c o, s.heap.get? c = some o → h'.get? c = some o) → Q (.ref (s.heap.objs.size + 4)) { s with heap := h' }) :
    wpAny (model prog w) A (call (.type "zip") [.str zx zt, .ref l2]) Q E s := by
  refine callType_new F.called_zip (by decide) (F.typeCall_zip_2 _ _) (F.newCall_zip_2 _ _) (fun obj => F.args_object_init_3 obj _ _) F.entry_zip_new
    (meets_zipS_new zx zt l2 ys hz) ⟨hl2, ?_⟩
  have z1 : (zipSH1 s.heap zx zt).objs.size = s.heap.objs.size + 1 := Heap.size_push ..
  have z2 : (zipSH2 s.heap zx zt l2).objs.size = s.heap.objs.size + 2 := by rw [Heap.size_push, z1]
  have z3 : (zipSH3 s.heap zx zt l2).objs.size = s.heap.objs.size + 3 := by rw [Heap.size_push, z2]
  have z4 : (zipSH4 s.heap zx zt l2).objs.size = s.heap.objs.size + 4 := by rw [Heap.size_push, z3]
  have z5 : (zipSH5 s.heap zx zt l2).objs.size = s.heap.objs.size + 5 := by rw [Heap.size_push, z4]
  have g5 : (zipSH5 s.heap zx zt l2).get? (zipSH4 s.heap zx zt l2).objs.size = some _ := Heap.get?_push_size _ rfl
  have g4 : (zipSH5 s.heap zx zt l2).get? (zipSH3 s.heap zx zt l2).objs.size = some _ := Heap.get?_push_of_some _ (Heap.get?_push_size _ rfl)
  have g3 : (zipSH5 s.heap zx zt l2).get? (zipSH2 s.heap zx zt l2).objs.size = some _ := Heap.get?_push_of_some _ (Heap.get?_push_of_some _ (Heap.get?_push_size _ rfl))
  have g2 : (zipSH5 s.heap zx zt l2).get? (zipSH1 s.heap zx zt).objs.size = some _ := Heap.get?_push_of_some _ (Heap.get?_push_of_some _ (Heap.get?_push_of_some _ (Heap.get?_push_size _ rfl)))
  have g1 : (zipSH5 s.heap zx zt l2).get? s.heap.objs.size = some _ := Heap.get?_push_of_some _ (Heap.get?_push_of_some _ (Heap.get?_push_of_some _ (Heap.get?_push_of_some _ (Heap.get?_push_size _ rfl))))
  show _ ∧ _
  rw [z2, z3, z4] at g5
  rw [z1, z2] at g3
  rw [z3] at g4
  rw [z1] at g2
  rw [z4]
  exact ⟨⟨_, g5, rfl⟩, h _ g5 g3 g4 ⟨_, g1, rfl, rfl⟩ ⟨_, g2, rfl, rfl⟩ z5 fun c o x =>
    Heap.get?_push_of_some _ (Heap.get?_push_of_some _ (Heap.get?_push_of_some _ (Heap.get?_push_of_some _ (Heap.get?_push_of_some _ x))))⟩
end
def ItzS (K : PySem.W.Frag) (zx : Str) (b : Addr) : It :=
  ⟨fun i H => ∃ (ys : List V) (c : Nat) (y : V), SqT K H b ys ∧ zx.cps[i]? = some c ∧ ys[i]? = some y,
    fun i H v H' => ∃ T c y, v = .ref T ∧ H T = none ∧ H' = upd H T (.tup [.str ⟨#[c]⟩, y]) ∧ zx.cps[i]? = some c ∧ ∀ ys, SqT K H b ys → ys[i]? = some y,
    fun i H => ∃ ys : List V, SqT K H b ys ∧ (zx.cps.size ≤ i ∨ ys.length ≤ i)⟩
theorem turn_zipS {P : Program} {w : World} {K : PySem.W.Frag} {elts : List Expr} {kk : Nat} {tpos : Pos} {b z TI TO i1 i2 : Addr} {zx : Str} {zt : Tok} (D : ZipApart z TI TO i1 i2 b b) :
    Turn P w K (.Tuple elts kk tpos) (ItzS K zx b) [z, TI, TO, i1, i2] z (fun i h => IsZip h z TI TO .none ∧ IsPair h TI (.ref i1) (.ref i2) ∧ (∃ x y, IsPair h TO x y) ∧ AscIt h i1 zx zt i ∧ h.IsTupleIter i2 b i) where
  mem := by simp
  obj := fun i h st c hc => by
    obtain ⟨hz, hTI, ⟨x, y, hTO⟩, ⟨o1, e1, _, d1⟩, ⟨o2, e2, _, d2⟩⟩ := st
    have e' : c = z ∨ c = TI ∨ c = TO ∨ c = i1 ∨ c = i2 := by simpa using hc
    rcases e' with q | q | q | q | q
    · rw [q]; exact ⟨_, hz, fun v q => nomatch q⟩
    · rw [q]; exact ⟨_, hTI, fun v q => nomatch q⟩
    · rw [q]; exact ⟨_, hTO, fun v q => nomatch q⟩
    · rw [q]; exact ⟨o1, e1, fun v q => by rw [d1] at q; cases q⟩
    · rw [q]; exact ⟨o2, e2, fun v q => by rw [d2] at q; cases q⟩
  keep := fun i h h' st k => by
    obtain ⟨hz, hTI, ⟨x, y, hTO⟩, ⟨o1, e1, r1⟩, h2⟩ := st
    exact ⟨k z (by simp) _ hz, k TI (by simp) _ hTI, ⟨x, y, k TO (by simp) _ hTO⟩, ⟨o1, k i1 (by simp) o1 e1, r1⟩, h2.at fun o q => k i2 (by simp) o q⟩
  item := by
    intro X hP hw hK hc i pins s σ H E I hf st hg
    subst hP hw hK
    obtain ⟨hz, hTI, ⟨x0, y0, hTO⟩, h1, h2⟩ := st
    obtain ⟨ys, c1, y, hqy, hx, hy⟩ := hg
    obtain ⟨its2, rv2, p2, _⟩ := I.tuple hqy
    obtain ⟨u2, hu2, ru2⟩ := rv2.get hy
    have hzl : z < s.heap.objs.size := Heap.lt_size hz
    refine pyNext_zipS_item D hz hTI hTO h1 h2 p2 (y := u2) hx (by simpa using hu2) fun h' z' TO' h1' h2' hT hsz hk => ?_
    refine ⟨_, rfl, wpAny_letOwnedTupleGo_zip (s := { s with heap := h', toks := s.toks + 1 }) z' fun h'' z'' sb => ?_⟩
    have hT2 : h''.get? s.heap.objs.size = some { cls := .type "tuple", data := .seq #[.str ⟨#[c1]⟩ s.toks, u2] } := (sb.2 _ (Nat.ne_of_gt hzl)).trans hT
    have new : ObjOk X.prog X.w (upd H s.heap.objs.size (.tup [.str ⟨#[c1]⟩, y])) h'' s.heap.objs.size (.tup [.str ⟨#[c1]⟩, y]) :=
      ⟨by show 2 ≤ sizeLine; decide, [.str ⟨#[c1]⟩ s.toks, u2], .cons ⟨_, rfl⟩ (.cons ru2 .nil), ⟨_, hT2, rfl, _, rfl⟩⟩
    have I1 : Inv X pins σ (upd H s.heap.objs.size (.tup [.str ⟨#[c1]⟩, y])) { s with heap := h'', toks := s.toks + 1 } :=
      I.turnedNew (t' := s.toks + 1) (ch := [z, TI, TO, i1, i2]) (fun c o hb q => (sb.2 c (fun q' => hb (by simp [q']))).trans (hk c o (fun q' => hb (by simp [q'])) (fun q' => hb (by simp [q'])) (fun q' => hb (by simp [q'])) (fun q' => hb (by simp [q'])) q)) hf (Nat.le_refl _) new
    refine ⟨.ref s.heap.objs.size, _, I1, rfl, ⟨_, c1, y, rfl, I.hok.fresh (Nat.le_refl _), rfl, hx, fun l hl => by rw [I.tuple_inj hl hqy]; exact hy⟩, ⟨z'', ?_, ⟨.str ⟨#[c1]⟩ s.toks, u2, ?_⟩, ?_, ?_⟩, fun c hcm => ?_⟩
    · exact (sb.2 _ D.TIz).trans (hk _ _ D.TIz D.TITO D.TIi1 D.TIi2 hTI)
    · exact (sb.2 _ D.TOz).trans TO'
    · obtain ⟨o, q, r⟩ := h1'
      exact ⟨o, (sb.2 _ D.i1z).trans q, r⟩
    · exact h2'.at fun o q => (sb.2 _ D.i2z).trans q
    · have hlt : c < s.heap.objs.size := by
        have e' : c = z ∨ c = TI ∨ c = TO ∨ c = i1 ∨ c = i2 := by simpa using hcm
        rcases e' with q | q | q | q | q
        · rw [q]; exact hzl
        · rw [q]; exact Heap.lt_size hTI
        · rw [q]; exact Heap.lt_size hTO
        · rw [q]; obtain ⟨_, e1, _⟩ := h1; exact Heap.lt_size e1
        · rw [q]; obtain ⟨_, e2, _⟩ := h2; exact Heap.lt_size e2
      rw [upd_ne (Nat.ne_of_lt hlt)]
      exact (hf c hcm).1
  done := by
    intro X hP hw hK hc i pins s σ H E I hf st hg
    subst hP hw hK
    obtain ⟨hz, hTI, ⟨x0, y0, hTO⟩, h1, h2⟩ := st
    obtain ⟨ys, hqy, hend⟩ := hg
    obtain ⟨its2, rv2, p2, _⟩ := I.tuple hqy
    have l2 := rv2.length
    have he : zx.cps[i]? = none ∨ its2.toArray[i]? = none := by
      rcases hend with q | q
      · exact .inl (Array.getElem?_eq_none q)
      · exact .inr (by simp; omega)
    exact pyNext_zipS_end (I.ok.hd hc) D hz hTI hTO h1 h2 p2 he fun h' hk tk => ⟨rfl, I.turnedL (t' := tk) (ch := [z, TI, TO, i1, i2]) (fun c o hb q =>
      hk c o (fun q' => hb (by simp [q'])) (fun q' => hb (by simp [q'])) (fun q' => hb (by simp [q'])) (fun q' => hb (by simp [q'])) q) hf⟩
  self := fun A i s Q E st h => wpAny_pyIter_zip st.1 h

def iZipS (K : PySem.W.Frag) (ta : TA) : TI := fun σ H R => ta σ H fun vs H1 => ∃ zx b ys, vs = [.str zx, .ref b] ∧ zx.cps.all (· < 128) = true ∧ SqT K H1 b ys ∧ R (ItzS K zx b) H1
theorem pi_zipS {X : Cx} {e e2 : Expr} {ta : TA} {p pos tpos : Pos} {elts : List Expr} {kk : Nat} (hg : Gl X "zip") (hm : X.mg "zip" = none) (ha : PA X [e, e2] ta)
    (hs : starEach [e, e2] X.env = (false, eval e X.env) :: starEach [e2] X.env := by rfl) (hpl : (backTo pos (starEach [e2] X.env)).any (·.1) = false := by rfl) :
    PI X (.Tuple elts kk tpos) (.Call (.Name "zip" p) [e, e2] [] pos) (iZipS X.K ta) := by
  refine ⟨fun pins s σ H R I h => ?_⟩
  refine Call_ (ld_blt I hg hm PyProof.Rows.boot_zip (PyProof.Rows.callWith_type1 (thn (ha.run pos pins s σ H _ I h) fun us s1 ⟨vs, H1, I1, r1, q1⟩ => ?_) hs hpl))
  obtain ⟨zx, b, ys, ex, hz, hqy, q⟩ := q1
  subst ex
  cases r1 with
  | cons r rr =>
    cases rr with
    | cons r' rr =>
      cases rr
      obtain ⟨zt, rfl⟩ := r
      cases r'
      have fresh5 : ∀ c, c ∈ [s1.heap.objs.size + 4, s1.heap.objs.size + 2, s1.heap.objs.size + 3, s1.heap.objs.size, s1.heap.objs.size + 1] → FpOk X pins H1 c := fun c hcm => by
        have e' : c = s1.heap.objs.size + 4 ∨ c = s1.heap.objs.size + 2 ∨ c = s1.heap.objs.size + 3 ∨ c = s1.heap.objs.size ∨ c = s1.heap.objs.size + 1 := by simpa using hcm
        have hle : s1.heap.objs.size ≤ c := by
          rcases e' with z | z | z | z | z
          · rw [z]; exact Nat.le_add_right _ _
          · rw [z]; exact Nat.le_add_right _ _
          · rw [z]; exact Nat.le_add_right _ _
          · rw [z]; exact Nat.le_refl _
          · rw [z]; exact Nat.le_add_right _ _
        exact I1.fpOk hle (I1.hok.fresh hle)
      obtain ⟨its2, rv2, p2, _⟩ := I1.tuple hqy
      obtain ⟨o2, ho2, _⟩ := id p2
      refine call_zipS hz (show s1.heap.IsTuple b its2.toArray from p2) fun h' hz' hTI hTO h1 h2 hsz hk => wpAny_pyIter_zip hz' ?_
      have I2 : Inv X pins σ H1 { s1 with heap := h' } := I1.kept (t' := s1.toks) hk
      exact ⟨s1.heap.objs.size + 4, [s1.heap.objs.size + 4, s1.heap.objs.size + 2, s1.heap.objs.size + 3, s1.heap.objs.size, s1.heap.objs.size + 1], _, _, H1, rfl, I2, turn_zipS (PySem.W.ktu_apart s1.heap.objs.size b b (Heap.lt_size ho2) (Heap.lt_size ho2)), ⟨hz', hTI, ⟨_, _, hTO⟩, h1, h2⟩, fresh5, q⟩
end PXZ
/-! Lists that hold the same data differ not (whatever they nest, empty dicts too). -/
namespace PX
open PySem PySem.Spec PyProof.Rows L2 PL
section
open PySem.SeqAt AutoSeq1 MeetsSeq MeetsSeq2 MeetsSeq3
open AutoSeq1 (wpAny_loadPart')
variable {prog : Program} {w : World}
theorem ne_loopIn (l b : Addr) (items items2 : Array Value) (n n2 : Nat) (dd dd2 : Option Addr) (sl sl2 : Array (Option Value)) (hsz : items.size = items2.size) (e : Nat → Bool) (k : Nat) :
    ∀ i : Nat, items.size - i = k → MeetsIn prog w (Builtin.«list.__eq__.loop» ⟨[.ref l, .ref b, rawInt i, rawInt 3], []⟩)
      (fun A R s => s.heap.get? l = some { cls := .type "list", dict := dd, data := .seq items n, slots := sl } ∧ s.heap.get? b = some { cls := .type "list", dict := dd2, data := .seq items2 n2, slots := sl2 } ∧
        (∀ j (h1 : j < items.size) (h2 : j < items2.size), EqIn prog w A.in1 s items[j] items2[j] (e j)) ∧
        R (.ok (.ret (.bool (!((List.range items.size).drop i).all e)))) s) := by
  induction k with
  | zero =>
    intro i hk A R s h
    obtain ⟨hp, g, d, tk, os⟩ := s; obtain ⟨hl, hb, he, h⟩ := h
    wp_walk using wpAny_loadPart' hl, wpAny_loadPart' hb
    have hi1 : items[((i : Nat) : Int).toNat]? = none := by simp; omega
    have hi2 : items2[((i : Nat) : Int).toNat]? = none := by simp; omega
    have hd : (List.range items.size).drop i = [] := by simp; omega
    rw [hd] at h
    rw [hi1, hi2]
    wp_walk using wpAny_loadPart' hl, wpAny_loadPart' hb
    show R (.ok (.ret (.bool (items.size != items2.size)))) _
    rw [hsz]
    simpa using h
  | succ k ih =>
    intro i hk A R s h
    obtain ⟨hp, g, d, tk, os⟩ := s; obtain ⟨hl, hb, he, h⟩ := h
    wp_walk using wpAny_loadPart' hl, wpAny_loadPart' hb
    have hlt : i < items.size := by omega
    have hlt2 : i < items2.size := by omega
    have hi1 : items[((i : Nat) : Int).toNat]? = some items[i] := by simp [hlt]
    have hi2 : items2[((i : Nat) : Int).toNat]? = some items2[i] := by simp [hlt2]
    have hd : (List.range items.size).drop i = i :: (List.range items.size).drop (i + 1) := by simp [List.drop_eq_getElem_cons, hlt]
    have hc : ((i : Int) + 1) = ((i + 1 : Nat) : Int) := by push_cast; rfl
    rw [hd, List.all_cons] at h
    rw [hi1, hi2]
    refine wpAny_bind (he i hlt hlt2 _ _ ?_)
    cases hb' : e i with
    | true =>
      rw [hb'] at h
      wp_walk
      rw [hc]
      exact ⟨plainId_quiet plain_eq_loop _, codeAny_builtin entry_eq_loop (by
        rw [Around.under_plainId plain_eq_loop _]
        exact ih (i + 1) (by omega) A R _ ⟨hl, hb, he, by simpa using h⟩)⟩
    | false =>
      rw [hb'] at h
      wp_walk using wpAny_loadPart' hl, wpAny_loadPart' hb
      rw [hi1, hi2]
      wp_walk
      simpa using h
theorem list_neIn (l b : Addr) (items items2 : Array Value) (n n2 : Nat) (dd dd2 : Option Addr) (sl sl2 : Array (Option Value)) (hsz : items.size = items2.size) (e : Nat → Bool) :
    MeetsIn prog w (Builtin.«list.__ne__» ⟨[.ref l, .ref b], []⟩)
      (fun A R s => s.heap.get? l = some { cls := .type "list", dict := dd, data := .seq items n, slots := sl } ∧ s.heap.get? b = some { cls := .type "list", dict := dd2, data := .seq items2 n2, slots := sl2 } ∧
        (∀ j (h1 : j < items.size) (h2 : j < items2.size), EqIn prog w A.in1 s items[j] items2[j] (e j)) ∧
        R (.ok (.ret (.bool (!(List.range items.size).all e)))) s) := by
  intro A R s h
  obtain ⟨hp, g, d, tk, os⟩ := s; obtain ⟨hl, hb, he, h⟩ := h
  have f3 := AutoSeq1.sub_list_list
  have hne : ¬ (items.size != items2.size) = true := by simp [hsz]
  wp_walk using wpAny_loadPart' hl, wpAny_loadPart' hb
  exact ⟨plainId_quiet plain_eq_loop _, codeAny_builtin entry_eq_loop (by
    rw [Around.under_plainId plain_eq_loop _]
    exact ne_loopIn l b items items2 n n2 dd dd2 sl sl2 hsz e _ 0 rfl A R _ ⟨hl, hb, he, by simpa using h⟩)⟩
theorem rcNe_lists {A : Around} {s : Shared} {E : Value → Shared → Prop} {l b : Addr} {items items2 : Array Value} {e : Nat → Bool} {Q : Value → Shared → Prop} (hl : s.heap.IsList l items) (hb : s.heap.IsList b items2) (hsz : items.size = items2.size) (hu : A.units < cLine)
    (he : ∀ j (h1 : j < items.size) (h2 : j < items2.size), EqIn prog w A.in1 s items[j] items2[j] (e j)) (h : Q (.bool (!(List.range items.size).all e)) s) : wpAny (model prog w) A (richCompare .NotEq (.ref l) (.ref b)) Q E s := by
  obtain ⟨⟨cls, dd, data, sl⟩, ho, hc, n, hd⟩ := id hl
  obtain ⟨⟨cls2, dd2, data2, sl2⟩, ho2, hc2, n2, hd2⟩ := id hb
  simp only at hc hd hc2 hd2
  subst hc hd hc2 hd2
  exact wpAny_richCompare_same_room (T := "list") (op := .NotEq) ⟨_, ho, rfl⟩ ⟨_, ho2, rfl⟩ F.slot_list_ne (call_meetsIn F.slot_list_ne ⟨_, ho, rfl⟩ F.entry_list_ne (F.args_list_ne_2 _ _) (list_neIn l b items items2 n n2 dd dd2 sl sl2 hsz e)
    ⟨ho, ho2, he, show Value.bool (!(List.range items.size).all e) ≠ Value.notImplemented ∧ Q (.bool (!(List.range items.size).all e)) s from ⟨(fun x => nomatch x), h⟩⟩) hu
end
/-- data of which equal ones are told equal: nested at most n deep -/
def okS : Nat → PyData → Bool
  | 0, _ => false
  | _ + 1, .none => true
  | _ + 1, .bool _ => true
  | _ + 1, .int _ => true
  | _ + 1, .str _ => true
  | n + 1, .list ds => ds.all (okS n)
  | n + 1, .tuple ds => ds.all (okS n)
  | _ + 1, .dict [] => true
  | _ + 1, .dict (_ :: _) => false
theorem okS_mono : ∀ (n : Nat) (d : PyData), okS n d = true → okS (n + 1) d = true
  | 0, _, h => by cases h
  | n + 1, .none, _ => rfl
  | n + 1, .bool _, _ => rfl
  | n + 1, .int _, _ => rfl
  | n + 1, .str _, _ => rfl
  | n + 1, .list ds, h => List.all_eq_true.mpr fun d m => okS_mono n d (List.all_eq_true.mp h d m)
  | n + 1, .tuple ds, h => List.all_eq_true.mpr fun d m => okS_mono n d (List.all_eq_true.mp h d m)
  | n + 1, .dict [], _ => rfl
  | n + 1, .dict (_ :: _), h => by cases h
theorem all_range_true (n : Nat) : (List.range n).all (fun _ => true) = true := List.all_eq_true.mpr fun _ _ => rfl
section
variable {X : Cx} {pins : List (Addr × Obj)} {σ : L2.St} {H : Hp} {s : Shared}
theorem tree_same (I : Inv X pins σ H s) : ∀ (n : Nat) (d : PyData) (x y : V) (u v : Value), okS n d = true → Rp X.K H x d → Rp X.K H y d → RelV x u → RelV y v → PySem.W.EqTree X.prog X.w s n u v true
  | 0, _, _, _, _, _, h, _, _, _, _ => by cases h
  | n + 1, d, x, y, u, v, h, rx, ry, ex, ey => by
    cases d with
    | none => cases rx; cases ry; exact .leaf fun A _ => eqAt_same ex ey rfl
    | bool b => cases rx; cases ry; exact .leaf fun A _ => eqAt_same ex ey rfl
    | int i => cases rx; cases ry; exact .leaf fun A _ => eqAt_same ex ey rfl
    | str z => cases rx; cases ry; exact .leaf fun A _ => eqAt_same ex ey rfl
    | list ds =>
      cases rx with
      | lst h1 r1 =>
        cases ry with
        | lst h2 r2 =>
          rename_i a xs b ys
          cases (show u = Value.ref a from ex)
          cases (show v = Value.ref b from ey)
          by_cases e : a = b
          · subst e
            exact .same
          · obtain ⟨us, v1, p1, _⟩ := I.list (SqL.of h1)
            obtain ⟨ws, v2, p2, _⟩ := I.list (SqL.of h2)
            have l1 := v1.length
            have l2 := v2.length
            have l3 := r1.length
            have l4 := r2.length
            have t := PySem.W.EqTree.lists (prog := X.prog) (w := X.w) (n := n) (e := fun _ => true) e p1.isList p2.isList (by rw [List.size_toArray, List.size_toArray]; omega) (fun j h3 h4 => by
              have h3' : j < us.length := by simpa using h3
              have h4' : j < ws.length := by simpa using h4
              have hj : j < ds.length := by omega
              obtain ⟨x1, e1, q1⟩ := r1.get (List.getElem?_eq_getElem hj)
              obtain ⟨y1, e2, q2⟩ := r2.get (List.getElem?_eq_getElem hj)
              obtain ⟨u1, e3, q3⟩ := v1.get e1
              obtain ⟨w1, e4, q4⟩ := v2.get e2
              have m := List.all_eq_true.mp h _ (List.getElem_mem hj)
              have := tree_same I n _ x1 y1 u1 w1 m q1 q2 q3 q4
              rw [List.getElem?_eq_getElem h3'] at e3
              rw [List.getElem?_eq_getElem h4'] at e4
              cases e3
              cases e4
              simpa using this)
            rw [all_range_true] at t
            exact t
    | tuple ds =>
      cases rx with
      | tup h1 r1 =>
        cases ry with
        | tup h2 r2 =>
          rename_i a xs b ys
          cases (show u = Value.ref a from ex)
          cases (show v = Value.ref b from ey)
          by_cases e : a = b
          · subst e
            exact .same
          · obtain ⟨us, v1, p1, _⟩ := I.tuple h1
            obtain ⟨ws, v2, p2, _⟩ := I.tuple h2
            have l1 := v1.length
            have l2 := v2.length
            have l3 := r1.length
            have l4 := r2.length
            have t := PySem.W.EqTree.tuples (prog := X.prog) (w := X.w) (n := n) (e := fun _ => true) e p1 p2 (fun j h3 h4 => by
              have h3' : j < us.length := by simpa using h3
              have h4' : j < ws.length := by simpa using h4
              have hj : j < ds.length := by omega
              obtain ⟨x1, e1, q1⟩ := r1.get (List.getElem?_eq_getElem hj)
              obtain ⟨y1, e2, q2⟩ := r2.get (List.getElem?_eq_getElem hj)
              obtain ⟨u1, e3, q3⟩ := v1.get e1
              obtain ⟨w1, e4, q4⟩ := v2.get e2
              have m := List.all_eq_true.mp h _ (List.getElem_mem hj)
              have := tree_same I n _ x1 y1 u1 w1 m q1 q2 q3 q4
              rw [List.getElem?_eq_getElem h3'] at e3
              rw [List.getElem?_eq_getElem h4'] at e4
              cases e3
              cases e4
              simpa using this)
            rw [all_range_true, Bool.true_and, show (us.toArray.size == ws.toArray.size) = true by rw [List.size_toArray, List.size_toArray]; simp; omega] at t
            exact t
    | dict kvs =>
      cases kvs with
      | cons q r => cases h
      | nil =>
        have key : ∀ z : V, Rp X.K H z (.dict []) → ∃ a, z = .ref a ∧ H a = some (.dK []) := fun z r => by
          generalize hd : (PyData.dict []) = d at r
          cases r with
          | dic h1 hl ha =>
            rename_i a ks xs ds
            have l := ha.length
            have e : kvP ks ds = [] := (PyData.dict.inj hd).symm
            unfold kvP at e
            have z := congrArg List.length e
            rw [List.length_map, List.length_zip, List.length_nil] at z
            have k0 : ks = [] := List.length_eq_zero_iff.mp (by omega)
            subst k0
            have x0 : xs = [] := List.length_eq_zero_iff.mp (by rw [← hl]; rfl)
            subst x0
            exact ⟨a, rfl, h1⟩
          | scr => cases hd
          | _ => cases hd
        obtain ⟨a, rfl, ha⟩ := key x rx
        obtain ⟨b, rfl, hb⟩ := key y ry
        cases (show u = Value.ref a from ex)
        cases (show v = Value.ref b from ey)
        by_cases e : a = b
        · subst e
          exact .same
        · obtain ⟨_, s1, va, ra, da⟩ := (show ObjOk X.prog X.w H s.heap a (.dK []) from I.hok a _ ha)
          obtain ⟨_, s2, vb, rb, db⟩ := (show ObjOk X.prog X.w H s.heap b (.dK []) from I.hok b _ hb)
          cases ra
          cases rb
          exact PySem.W.EqTree.dicts (knd := mixKind X.prog X.w) (e := fun _ => true) e s1 s2 da db (fun k v y hm => by cases hm)
def rNeS (K : PySem.W.Frag) : R2 := fun x y H Q => ∃ (ds : List PyData), okS 20 (.list ds) = true ∧ Rp K H x (.list ds) ∧ Rp K H y (.list ds) ∧ Q (.bl false) H
theorem op_neS (hu : X.A.units + 64 < cLine) : OpR X (compareOp .NotEq) (rNeS X.K) := by
  intro pins s σ H x y u v Q I ex ey h
  obtain ⟨ds, ho, rx, ry, q⟩ := h
  cases rx with
  | lst h1 r1 =>
    cases ry with
    | lst h2 r2 =>
      rename_i a xs b ys
      cases (show u = Value.ref a from ex)
      cases (show v = Value.ref b from ey)
      obtain ⟨us, v1, p1, _⟩ := I.list (SqL.of h1)
      obtain ⟨ws, v2, p2, _⟩ := I.list (SqL.of h2)
      have l1 := v1.length
      have l2 := v2.length
      have l3 := r1.length
      have l4 := r2.length
      refine rcNe_lists (e := fun _ => true) p1.isList p2.isList (by rw [List.size_toArray, List.size_toArray]; omega) (by omega) (fun j h3 h4 => ?_) ⟨.bl false, H, I, ?_, q⟩
      · have h3' : j < us.length := by simpa using h3
        have h4' : j < ws.length := by simpa using h4
        have hj : j < ds.length := by omega
        obtain ⟨x1, e1, q1⟩ := r1.get (List.getElem?_eq_getElem hj)
        obtain ⟨y1, e2, q2⟩ := r2.get (List.getElem?_eq_getElem hj)
        obtain ⟨u1, e3, q3⟩ := v1.get e1
        obtain ⟨w1, e4, q4⟩ := v2.get e2
        have m := List.all_eq_true.mp ho _ (List.getElem_mem hj)
        have := (tree_same I 19 _ x1 y1 u1 w1 m q1 q2 q3 q4).at X.A.in1 (by show X.A.units + 1 + 19 < cLine; omega)
        rw [List.getElem?_eq_getElem h3'] at e3
        rw [List.getElem?_eq_getElem h4'] at e4
        cases e3
        cases e4
        simpa using this
      · show Value.bool _ = Value.bool false
        rw [all_range_true]
        rfl
end
open Classical in
/-- a != b where both hold the same -/
noncomputable def gNeS : PyData → PyData → Option PyData
  | .list ds, .list es => if ds = es ∧ okS 20 (.list ds) = true then some (.bool false) else none
  | _, _ => none
theorem ok_neS {K : PySem.W.Frag} : Ok2 K (rNeS K) gNeS := by
  intro O H x y d e z al o1 o2 h Q q
  unfold gNeS at h
  split at h
  · rename_i ds es
    split at h
    · rename_i k
      obtain ⟨rfl, k2⟩ := k
      cases h
      exact ⟨ds, k2, o1.rp, o2.rp, q _ H (Ex.refl H) (.bl _)⟩
    · cases h
  · cases h
theorem kNeS {X : Cx} {K : PySem.W.Frag} (hu : X.A.units + 65 < cLine) (hK : X.K = K := by rfl) : OpR X (compareOp .NotEq) (rNeS K) ∧ Ok2 K (rNeS K) gNeS := by
  subst hK
  exact ⟨op_neS (by omega), ok_neS⟩
end PX
/-! zip of a text and a tuple; {} as data; x is True; xs[k] = v; xs.insert(k, v); {..} and update. -/
namespace PX
open PySem PySem.Spec PyProof.Rows L2 PL
/-! ### zip of a text and a tuple -/
def iZs (f : PL.Env → Option (List PyData)) : PL.Env → Option (List PyData) := fun env => (f env).bind fun
  | [.str z, e] => if z.cps.all (· < 128) = true then (asTu e).map fun ys => zipD (z.cps.toList.map fun c => .str ⟨#[c]⟩) ys else none
  | _ => none
section
variable {K : PySem.W.Frag} {tr : TA} {fr : PL.Env → Option (List PyData)}
theorem den_izs (h : DenAP K tr fr) : DenI K (PXZ.iZipS K tr) (iZs fr) := by
  intro base O0 O σ H env ds S e R q
  unfold iZs at e
  cases k1 : fr env with
  | none => simp [k1] at e
  | some xs =>
    simp only [k1, Option.bind_some] at e
    split at e
    case h_2 => cases e
    rename_i z d2
    split at e
    case isFalse => cases e
    rename_i hz
    cases k3 : asTu d2 with
    | none => simp [k3] at e
    | some fs =>
      simp only [k3, Option.map_some] at e
      cases e
      refine h base O0 O σ H env _ S k1 _ fun vs H1 x1 r1 => ?_
      cases r1 with
      | cons o t =>
        cases t with
        | cons o2 t =>
          cases t
          cases o
          obtain ⟨b, ws, rfl, hs2, r2'⟩ := asTu_rp o2 k3
          refine ⟨z, b, ws, rfl, hz, ex_t vis_le hs2, q _ H1 x1 fun O2 H2 al e1 e2 => ⟨fun i d hd => ?_, fun i hi => ?_⟩⟩
          · obtain ⟨x, y, hx, hy, rfl⟩ := zipD_at _ fs i d hd
            rw [List.getElem?_map, Option.map_eq_some_iff] at hx
            obtain ⟨c, hc, rfl⟩ := hx
            have hc' : z.cps[i]? = some c := by rw [← Array.getElem?_toList]; exact hc
            obtain ⟨w, hw, rw_⟩ := r2'.get hy
            refine ⟨⟨ws, c, w, ex_t e1 hs2, hc', hw⟩, fun x H3 yy => ?_⟩
            obtain ⟨T, c2, y2, rfl, hT, rfl, y3, y4⟩ := yy
            rw [hc'] at y3
            cases y3
            have z2 := y4 ws (ex_t e1 hs2)
            rw [hw] at z2
            cases z2
            exact new_tup al hT (.cons (.str _) (.cons (rw_.mono e2) .nil))
          · rw [zipD_len, List.length_map] at hi
            exact ⟨ws, ex_t e1 hs2, by rw [r2'.length]; have : z.cps.toList.length = z.cps.size := by simp
                                       omega⟩
end
section
variable {K : PySem.W.Frag} {X : Cx} {a b : Expr} {tr : TA} {fr : PL.Env → Option (List PyData)} {p pos : Pos} {elts : List Expr} {kk : Nat} {tpos : Pos}
theorem iZs_ (hm : X.mg "zip" = none) (ha : EB K X [a, b] tr fr) (hg : Gl X "zip" := by rfl) (hs : starEach [a, b] X.env = (false, eval a X.env) :: starEach [b] X.env := by rfl) (h2 : (backTo pos (starEach [b] X.env)).any (·.1) = false := by rfl) (hK : X.K = K := by rfl) :
    EI K X (.Tuple elts kk tpos) (.Call (.Name "zip" p) [a, b] [] pos) (PXZ.iZipS K tr) (iZs fr) := by
  subst hK
  exact ⟨PXZ.pi_zipS hg hm ha.pe hs h2, den_izs ha.de⟩
end
/-! ### {} as data -/
section
variable {K : PySem.W.Frag} {X : Cx} {pos : Pos}
theorem cE0 : EP K X (.Dict [] [] pos) tDNewK (eC (.dict [])) := by
  refine ⟨pe_dnewK, ?_⟩
  intro base O0 O σ H env d S e Q q
  cases e
  intro p hp
  have op : O p = false := by
    cases z : O p with
    | false => rfl
    | true => exact absurd hp (S.all p z)
  exact q _ _ (Ex.new hp) (.dic (ks := []) (xs := []) (ds := []) (vis_at op upd_same) rfl .nil)
end
/-! ### x is True, x a truth, a number or None -/
def rIsT : R2 := fun x y H Q => y = .bl true ∧ ((∃ b, x = .bl b ∧ Q (.bl b) H) ∨ (x = .non ∧ Q (.bl false) H) ∨ ∃ i, x = .int i ∧ Q (.bl false) H)
def gIsT : PyData → PyData → Option PyData
  | .bool b, .bool true => some (.bool b)
  | .none, .bool true => some (.bool false)
  | .int _, .bool true => some (.bool false)
  | _, _ => none
section
variable {X : Cx} {K : PySem.W.Frag}
theorem op_isT : OpR X (compareOp .Is) rIsT := by
  intro pins s σ H x y v u Q I rx ry h
  obtain ⟨rfl, h⟩ := h
  cases (show u = Value.bool true from ry)
  rcases h with ⟨b, rfl, q⟩ | ⟨rfl, q⟩ | ⟨i, rfl, q⟩
  · cases (show v = Value.bool b from rx)
    cases b with
    | true => exact wpAny_is_self rfl ⟨.bl true, H, I, rfl, q⟩
    | false => exact wpAny_is_other rfl (fun z => nomatch z) ⟨.bl false, H, I, rfl, q⟩
  · cases (show v = Value.none from rx)
    exact wpAny_is_other rfl (fun z => nomatch z) ⟨.bl false, H, I, rfl, q⟩
  · obtain ⟨t, rfl⟩ := (show ∃ t, v = Value.int i t from rx)
    exact wpAny_is_other rfl (fun z => nomatch z) ⟨.bl false, H, I, rfl, q⟩
theorem ok_isT : Ok2 K rIsT gIsT := by
  intro O H x y d e z al o1 o2 h Q q
  unfold gIsT at h
  have r2 := o2.rp
  have r1 := o1.rp
  split at h
  · cases h
    cases r2
    cases r1
    exact ⟨rfl, .inl ⟨_, rfl, q _ H (Ex.refl H) (.bl _)⟩⟩
  · cases h
    cases r2
    cases r1
    exact ⟨rfl, .inr (.inl ⟨rfl, q _ H (Ex.refl H) (.bl _)⟩)⟩
  · cases h
    cases r2
    cases r1
    exact ⟨rfl, .inr (.inr ⟨_, rfl, q _ H (Ex.refl H) (.bl _)⟩)⟩
  · cases h
theorem kIsT : OpR X (compareOp .Is) rIsT ∧ Ok2 K rIsT gIsT := ⟨op_isT, ok_isT⟩
end
/-! ### xs[k] = v, xs.insert(k, v), xs a list that the frame fills -/
def sSet (i k : Nat) (f : PL.Env → Option PyData) : PL.Env → Option Out := fun env => match (env[i]? : Option Sl) with
  | some (.own ds) => (f env).bind fun d => if k < ds.length then some (.nx (env.set i (.own (ds.set k d)))) else none
  | _ => none
theorem RpAll.set {K : PySem.W.Frag} {H : Hp} {v : V} {d : PyData} (hv : Rp K H v d) : ∀ {vs : List V} {ds : List PyData} (k : Nat), RpAll K H vs ds → RpAll K H (vs.set k v) (ds.set k d)
  | _, _, _, .nil => .nil
  | _, _, 0, .cons _ t => .cons hv t
  | _, _, k + 1, .cons h t => .cons h (RpAll.set hv k t)
section
variable {K : PySem.W.Frag} {te tk : TE} {f fk : PL.Env → Option PyData} {i k : Nat}
theorem dens_set (h : DenP K te f) : DenS K (tAsg te (gSub (tVar i) (tC (.int (k : Int))) rSetL)) (sSet i k f) := by
  intro base O0 O σ H env o D S e P
  unfold sSet at e
  split at e
  · rename_i ds hi
    cases k1 : f env with
    | none => simp [k1] at e
    | some d =>
      simp only [k1, Option.bind_some] at e
      split at e
      case isFalse => cases e
      rename_i hk
      cases e
      obtain ⟨x, fp, hx, a, vs, rfl, _, oa, ba, h1, r⟩ := S.at_ hi
      refine h base O0 O σ H env d S k1 _ fun v H1 x1 rv => ?_
      refine ⟨_, hx, a, vs, (k : Int), k, rfl, rfl, x1 _ _ h1, ?_, ?_⟩
      · unfold ixN
        rw [r.length, if_pos (by omega), if_pos (by omega), Int.toNat_natCast]
      · obtain ⟨hv, S2⟩ := (S.mono x1).mut (vs := vs.set k v) (es := ds.set k d) hi hx (RpAll.set rv k (r.mono (vis_mono x1)))
        exact P O σ _ (by rw [hv]; exact vis_mono x1) S2
  · cases e
def rIns : V → List V → Hp → VK → Prop := fun x vs H Q => ∃ (l : Addr) (xs : List V) (i : Int) (y : V), x = .ref l ∧ vs = [.int i, y] ∧ H l = some (.lst xs) ∧ xs.length < sizeLine ∧ 0 ≤ i ∧ i < 2 ^ 63 ∧
    Q .non (upd H l (.lst (xs.take i.toNat ++ [y] ++ xs.drop i.toNat)))
def sIns (i : Nat) (fk f : PL.Env → Option PyData) : PL.Env → Option Out := fun env => match (env[i]? : Option Sl) with
  | some (.own ds) => (fk env).bind fun
    | .int k => (f env).bind fun d => if 0 ≤ k ∧ k ≤ 100000 ∧ ds.length < 100000 then some (.nx (env.set i (.own (ds.take k.toNat ++ [d] ++ ds.drop k.toNat)))) else none
    | _ => none
  | _ => none
theorem dens_ins (hk : DenP K tk fk) (h : DenP K te f) : DenS K (tDrop (tBM K "list" rIns (tVar i) (tCons tk (tCons te tNil)))) (sIns i fk f) := by
  intro base O0 O σ H env o D S e P
  unfold sIns at e
  split at e
  · rename_i ds hi
    cases k1 : fk env with
    | none => simp [k1] at e
    | some dk =>
      simp only [k1, Option.bind_some] at e
      split at e
      case h_2 => cases e
      rename_i k
      cases k2 : f env with
      | none => simp [k2] at e
      | some d =>
        simp only [k2, Option.bind_some] at e
        split at e
        case isFalse => cases e
        rename_i hc
        cases e
        obtain ⟨x, fp, hx, a, vs, rfl, _, oa, ba, h1, r⟩ := S.at_ hi
        refine ⟨_, hx, Or.inl ⟨rfl, vs, SqL.of h1⟩, ?_⟩
        refine hk base O0 O σ H env _ S k1 _ fun v0 H0 x0 rv0 => ?_
        cases rv0
        refine h base O0 O σ H0 env d (S.mono x0) k2 _ fun v H1 x1 rv => ⟨a, vs, k, v, rfl, rfl, (x0.trans x1) _ _ h1, ?_, hc.1, by omega, ?_⟩
        · rw [r.length]
          have := big 100000 (Nat.le_refl _)
          omega
        · have rr := r.mono (vis_mono (x0.trans x1))
          obtain ⟨hv, S2⟩ := (S.mono (x0.trans x1)).mut (vs := vs.take k.toNat ++ [v] ++ vs.drop k.toNat) (es := ds.take k.toNat ++ [d] ++ ds.drop k.toNat) hi hx (((rr.take _).append (.cons rv .nil)).append (rr.drop _))
          exact P O σ _ (by rw [hv]; exact vis_mono (x0.trans x1)) S2
  · cases e
end
section
variable {K : PySem.W.Frag} {X : Cx} {x : Str} {px pos pos' p2 : Pos} {e ek : Expr} {te tk : TE} {f fk : PL.Env → Option PyData}
theorem zSet (i k : Nat) {j : Nat} (hx : PE X (.Name x px) (tVar i)) (h : EP K X e te f) (hs : swapsWithSole [.Subscript (.Name x px) (.Constant (.int (k : Int)) j p2) pos'] e pos.line X.env = pure false := by rfl) (h2 : swappedStores [.Subscript (.Name x px) (.Constant (.int (k : Int)) j p2) pos'] e X.env = pure none := by rfl)
    (h3 : (assignEach [.Subscript (.Name x px) (.Constant (.int (k : Int)) j p2) pos'] X.env).map (·.2) = [assign (.Subscript (.Name x px) (.Constant (.int (k : Int)) j p2) pos') X.env] := by rfl) :
    ES K X (.Assign [.Subscript (.Name x px) (.Constant (.int (k : Int)) j p2) pos'] e pos) (tAsg te (gSub (tVar i) (tC (.int (k : Int))) rSetL)) (sSet i k f) :=
  ⟨ps_asg h.pe (pg_sub hx pe_int set_list) hs h2 h3, dens_set h.de⟩
theorem zIns (i : Nat) {ap q qq : Pos} (hx : EO K X (.Name x px) (tVar i) (eVarO i)) (hk : EP K X ek tk fk) (h : EP K X e te f) (hb : attributeBase (.Name x px) "insert" X.env (eval (.Name x px) X.env) = eval (.Name x px) X.env := by rfl)
    (hfew : (((backTo q (starEach [ek, e] X.env)).all (!·.1) && (backToKw q (keywordEach [] X.env)).all (·.1.isSome)) && decide (([ek, e].length + ([] : List Keyword).length + if ([] : List Keyword).isEmpty = true then 0 else 1) < 30)) = true := by rfl) (hl : (ap.endLine == q.line) = true := by rfl)
    (he1 : starEach [ek, e] X.env = (false, eval ek X.env) :: starEach [e] X.env := by rfl) (he : starEach [e] X.env = (false, eval e X.env) :: starEach [] X.env := by rfl) (hpl : (backTo q (starEach [e] X.env)).any (·.1) = false := by rfl)
    (hs : swapsWith (.Call (.Attribute (.Name x px) "insert" ap) [ek, e] [] q) none qq.line X.env = pure false := by rfl) (hK : X.K = K := by rfl) : ES K X (.Expr (.Call (.Attribute (.Name x px) "insert" ap) [ek, e] [] q) qq) (tDrop (tBM K "list" rIns (tVar i) (tCons tk (tCons te tNil)))) (sIns i fk f) := by
  subst hK
  exact ⟨ps_expr (pe_bm PySem.F.plainAttrs_list PySem.F.slot_list_insert PySem.F.type_list_insert mt_insert hx.pe (pa_cons hk.pe (pa_cons h.pe pa_nil he) he1) hb hfew hl he1 hpl) hs, dens_ins hk.de h.de⟩
end
/-! ### d = {..}; d.update({..}) -/
def rDUpd : V → List V → Hp → VK → Prop := fun x vs H Q => ∃ (a b : Addr) (ks ls : List (Key × V)), x = .ref a ∧ vs = [.ref b] ∧ a ≠ b ∧ H a = some (.dK ks) ∧ H b = some (.dK ls) ∧ ks.length + ls.length ≤ sizeLine ∧ Q .non (upd H a (.dK (mergeK ks ls)))
theorem mt_dupd {X : Cx} : MtR X "dict.update" rDUpd := by
  intro pins s σ H x vs v us Q I rx rv h
  obtain ⟨a, b, ks, ls, rfl, rfl, ne, ha, hb, hz, q⟩ := h
  obtain rfl : v = Value.ref a := rx
  obtain ⟨u, rfl, ru⟩ := vals1 rv
  obtain rfl : u = Value.ref b := ru
  obtain ⟨z1, hd1, va, ra, da⟩ := dk_of I.hok ha
  obtain ⟨z2, hd2, vb, rb, db⟩ := dk_of I.hok hb
  have l1 := ra.length
  have l2 := rb.length
  refine call_meetsIn PySem.F.slot_dict_update da.typeIs PySem.F.entry_dict_update (PySem.F.args_dict_update_2 _ _) (meets_dict_update (mixKind X.prog X.w) a b ne hd2) ⟨va, vb, da, db, by omega, fun h' dd' db' hs => ?_⟩
  have he : ∃ q, h'.get? a = some q := let ⟨q, _, _, hq, _⟩ := dd'; ⟨q, hq⟩
  refine ⟨.non, _, d_write (t' := s.toks) I (by rw [ha]; exact True.intro) hs he (dk_new (kvs := mergeK ks ls) ?_ hd1 (KV.merge rb ra) dd'), rfl, q⟩
  have := length_mergeK ls ks
  omega
def sDict2 (i : Nat) (ks : List Str) (fr : PL.Env → Option (List PyData)) (ls : List Str) (gr : PL.Env → Option (List PyData)) : PL.Env → Option Out := fun env => (fr env).bind fun ds => (gr (env.set i .any)).bind fun es => if i < env.length then some (.nx (env.set i (.sh (.dict (kvP (ks ++ ls) (ds ++ es)))))) else none
theorem kvV_app : ∀ {ks : List Str} {vs : List V} {ls : List Str} {ws : List V}, ks.length = vs.length → kvV (ks ++ ls) (vs ++ ws) = kvV ks vs ++ kvV ls ws := fun {ks vs ls ws} h => by
  unfold kvV
  rw [List.zip_append h, List.map_append]
section
variable {K : PySem.W.Frag} {l m : List (TE × TE)} {ks ls : List Str} {fr gr : PL.Env → Option (List PyData)} {i : Nat}
theorem dens_dict2 (hn : (ks ++ ls).Nodup) (h15 : ks.length ≤ 15) (h15' : ls.length ≤ 15) (h : DenPs K l ks fr) (g : DenPs K m ls gr) : DenS K (tSeq (tAsg (tDisp l) (gName i)) (tDrop (tBM K "dict" rDUpd (tVar i) (tCons (tDisp m) tNil)))) (sDict2 i ks fr ls gr) := by
  intro base O0 O σ H env o D S e P
  unfold sDict2 at e
  cases k1 : fr env with
  | none => simp [k1] at e
  | some ds =>
    cases k2 : gr (env.set i .any) with
    | none => simp [k1, k2] at e
    | some es =>
      simp only [k1, k2, Option.bind_some] at e
      split at e
      case isFalse => cases e
      rename_i hi
      cases e
      have hn1 : ks.Nodup := (List.nodup_append.mp hn).1
      have hn2 : ls.Nodup := (List.nodup_append.mp hn).2.1
      have mrg : ∀ {ks : List Str} {vs : List V}, ks.Nodup → ks.length = vs.length → mergeK [] (kvV ks vs) = kvV ks vs := fun {ks vs} hn hl => by
        unfold mergeK
        rw [merge_new _ [] (by rw [List.nil_append, kvV_keys hl]; exact keys_nd hn)]
        rfl
      have few : ∀ {ks : List Str} {vs : List V}, ks.length ≤ 15 → (kvV ks vs).length ≤ 15 := fun {ks vs} h => by
        unfold kvV
        rw [List.length_map, List.length_zip]
        omega
      unfold tSeq tAsg
      intro p hp
      have op : O p = false := by
        cases z : O p with
        | false => rfl
        | true => exact absurd hp (S.all p z)
      have S1 := S.hide (D := p) (H' := upd H p (.dK [])) hp (Ex.new hp) (by rw [upd_same]; exact fun z => nomatch z)
      refine h base O0 (hid O p) σ _ env ds S1 k1 _ fun vs H2 x2 hl r => ?_
      refine ⟨x2 p _ upd_same, kvV ks vs, rfl, few h15, ?_⟩
      rw [mrg hn1 hl]
      -- the name holds it
      have e3 : Ex H (upd H2 p (.dK (kvV ks vs))) := fun a o ha => by
        have ne : a ≠ p := ne_of_none ha hp
        rw [upd_ne ne]
        exact x2 a o (by rw [upd_ne ne]; exact ha)
      have hil : i < σ.length := by rw [S.len]; exact hi
      generalize hH3 : upd H2 p (.dK (kvV ks vs)) = H3 at e3
      have h3p : H3 p = some (.dK (kvV ks vs)) := by rw [← hH3, upd_same]
      have S3 : Sat K base O0 (hid O p) (σ.set i (some (.ref p))) H3 (env.set i .any) := by
        obtain ⟨fps, S0⟩ := S
        refine ⟨_, S0.put (O' := hid O p) (H' := H3) (i := i) (x := some (.ref p)) (fp := []) (s := .any) (S0.ex.trans e3) (vis_hid hp e3) (fun a ha => ?_) (fun a ha => ?_) (fun a ha => ?_) (fun j _ a ma => ⟨?_, ?_, fun z => nomatch z⟩) rfl hi⟩
        · unfold hid at ha
          rw [Bool.or_eq_true] at ha
          rcases ha with ha | ha
          · exact S0.new a ha
          · rw [of_decide_eq_true ha]
            exact .inr (S0.ex.free hp)
        · unfold hid
          rw [S0.sub a ha]
          rfl
        · unfold hid at ha
          rw [Bool.or_eq_true] at ha
          rcases ha with ha | ha
          · exact fun z => S0.all a ha (e3.free z)
          · rw [of_decide_eq_true ha, h3p]
            exact fun z => nomatch z
        · exact keeps (S0.all a (S0.cells j a ma).1) e3
        · unfold hid
          rw [(S0.cells j a ma).1]
          rfl
      show tDrop (tBM K "dict" rDUpd (tVar i) (tCons (tDisp m) tNil)) D (σ.set i (some (.ref p))) H3
      refine ⟨_, List.getElem?_set_self hil, Or.inr (Or.inr (Or.inl ⟨rfl, Or.inl ⟨_, h3p⟩⟩)), ?_⟩
      intro p2 hp2
      have ne : p ≠ p2 := fun z => by rw [z, hp2] at h3p; cases h3p
      have S4 := S3.hide (D := p2) (H' := upd H3 p2 (.dK [])) hp2 (Ex.new hp2) (by rw [upd_same]; exact fun z => nomatch z)
      refine g base O0 _ _ _ _ es S4 k2 _ fun ws H5 x5 hl2 r5 => ?_
      refine ⟨x5 p2 _ upd_same, kvV ls ws, rfl, few h15', ?_⟩
      rw [mrg hn2 hl2]
      have x35 : Ex H3 (upd H5 p2 (.dK (kvV ls ws))) := fun a o ha => by
        have ne : a ≠ p2 := ne_of_none ha hp2
        rw [upd_ne ne]
        exact x5 a o (by rw [upd_ne ne]; exact ha)
      refine ⟨p, p2, kvV ks vs, kvV ls ws, rfl, rfl, ne, x35 _ _ h3p, upd_same, ?_, ?_⟩
      · have a1 := few (ks := ks) (vs := vs) h15
        have a2 := few (ks := ls) (vs := ws) h15'
        rw [sizeLine_eq]
        omega
      · have mg2 : mergeK (kvV ks vs) (kvV ls ws) = kvV (ks ++ ls) (vs ++ ws) := by
          rw [kvV_app hl]
          unfold mergeK
          rw [merge_new _ (kvV ks vs) (by rw [← kvV_app hl, kvV_keys (by rw [List.length_append, List.length_append]; omega)]; exact keys_nd hn)]
        rw [mg2]
        generalize hH6 : upd (upd H5 p2 (.dK (kvV ls ws))) p (.dK (kvV (ks ++ ls) (vs ++ ws))) = H6
        have h6p : H6 p = some (.dK (kvV (ks ++ ls) (vs ++ ws))) := by rw [← hH6, upd_same]
        have e6 : Ex H H6 := fun a o ha => by
          have n1 : a ≠ p := ne_of_none ha hp
          rw [← hH6, upd_ne n1]
          exact x35 a o (e3 a o ha)
        have m1 : Ex (vis (hid O p) H2) (vis O H6) := fun a o ha => by
          have h2a := vis_le _ _ ha
          have hidf : hid O p a = false := by
            cases z : hid O p a with
            | false => rfl
            | true => unfold vis at ha; rw [if_pos z] at ha; cases ha
          unfold hid at hidf
          rw [Bool.or_eq_false_iff] at hidf
          have n1 : a ≠ p := of_decide_eq_false hidf.2
          refine vis_at hidf.1 ?_
          rw [← hH6, upd_ne n1]
          exact x35 a o (by rw [← hH3, upd_ne n1]; exact h2a)
        have m2 : Ex (vis (hid (hid O p) p2) H5) (vis O H6) := fun a o ha => by
          have h5a := vis_le _ _ ha
          have hidf : hid (hid O p) p2 a = false := by
            cases z : hid (hid O p) p2 a with
            | false => rfl
            | true => unfold vis at ha; rw [if_pos z] at ha; cases ha
          unfold hid at hidf
          rw [Bool.or_eq_false_iff, Bool.or_eq_false_iff] at hidf
          have n1 : a ≠ p := of_decide_eq_false hidf.1.2
          have n2 : a ≠ p2 := of_decide_eq_false hidf.2
          refine vis_at hidf.1.1 ?_
          rw [← hH6, upd_ne n1, upd_ne n2]
          exact h5a
        exact P O _ H6 (vis_mono e6) ((S.mono e6).set (.dic (vis_at op h6p) (by rw [List.length_append, List.length_append]; omega) ((r.mono m1).append (r5.mono m2))))
end
section
variable {K : PySem.W.Frag} {X : Cx} {l m : List (TE × TE)} {ks ls : List Str} {fr gr : PL.Env → Option (List PyData)} {keys keys2 : List (Option Expr)} {vals vals2 : List Expr} {x : Str} {px px2 pos pos2 spos ap q qq : Pos} {rest : List Stmt} {tu : TS} {F2 : PL.Env → Option Out}
theorem bDict2 (i : Nat) (nd : X.N.Nodup) (h : EPs K X pos keys vals l ks fr) (g : EPs K X pos2 keys2 vals2 m ls gr) (hx : EO K X (.Name x px2) (tVar i) (eVarO i)) (hr : EK K X rest tu F2)
    (hN : X.N[i]? = some x := by rfl) (hlc : Loc X.env.scope x := by first | exact Or.inl rfl | exact Or.inr rfl) (hf : X.fn x = true ∨ X.env.scope.names.lookup x = some .local := by first | exact Or.inr rfl | exact Or.inl rfl)
    (hn : (ks ++ ls).Nodup := by decide +kernel) (h15 : ks.length ≤ 15 := by decide) (h15' : ls.length ≤ 15 := by decide)
    (hall : keys.all (·.isSome) = true := by rfl) (hl : keys.length = vals.length := by rfl) (h0 : keys ≠ [] := by exact fun z => nomatch z) (hk : keys.length ≤ 15 := by decide)
    (hall2 : keys2.all (·.isSome) = true := by rfl) (hl2 : keys2.length = vals2.length := by rfl) (h02 : keys2 ≠ [] := by exact fun z => nomatch z) (hk2 : keys2.length ≤ 15 := by decide)
    (hs : swapsWithSole [.Name x px] (.Dict keys vals pos) spos.line X.env = pure false := by rfl) (h2 : swappedStores [.Name x px] (.Dict keys vals pos) X.env = pure none := by rfl) (h3 : (assignEach [.Name x px] X.env).map (·.2) = [assign (.Name x px) X.env] := by rfl)
    (hb : attributeBase (.Name x px2) "update" X.env (eval (.Name x px2) X.env) = eval (.Name x px2) X.env := by rfl)
    (hfew : (((backTo q (starEach [.Dict keys2 vals2 pos2] X.env)).all (!·.1) && (backToKw q (keywordEach [] X.env)).all (·.1.isSome)) && decide (([Expr.Dict keys2 vals2 pos2].length + ([] : List Keyword).length + if ([] : List Keyword).isEmpty = true then 0 else 1) < 30)) = true := by rfl) (hln : (ap.endLine == q.line) = true := by rfl)
    (he : starEach (.Dict keys2 vals2 pos2 :: []) X.env = (false, eval (.Dict keys2 vals2 pos2) X.env) :: starEach [] X.env := by rfl) (hpl : (backTo q (starEach [] X.env)).any (·.1) = false := by rfl) (hsw : swapsWith (.Call (.Attribute (.Name x px2) "update" ap) [.Dict keys2 vals2 pos2] [] q) none qq.line X.env = pure false := by rfl) (hK : X.K = K := by rfl) :
    EK K X (.Assign [.Name x px] (.Dict keys vals pos) spos :: .Expr (.Call (.Attribute (.Name x px2) "update" ap) [.Dict keys2 vals2 pos2] [] q) qq :: rest) (tSeq (tAsg (tDisp l) (gName i)) (tSeq (tDrop (tBM K "dict" rDUpd (tVar i) (tCons (tDisp m) tNil))) tu)) (sSeq (sDict2 i ks fr ls gr) F2) := by
  subst hK
  refine ⟨pss_cons (ps_asg (pe_disp h.pe hall hl h0 hk) (pg_name nd hN hlc hf) hs h2 h3) (pss_cons (ps_expr (pe_bm PySem.F.plainAttrs_dict PySem.F.slot_dict_update PySem.F.type_dict_update mt_dupd hx.pe (pa_cons (pe_disp g.pe hall2 hl2 h02 hk2) pa_nil he) hb hfew hln he hpl) hsw) hr.pe), ?_⟩
  have z := dens_seq (dens_dict2 (i := i) hn h15 h15' h.de g.de) hr.de
  exact z
end
end PX
/-! return ("text", f(..)) that may raise; clauses that hand back ("text", error.at). -/
namespace PX
open PySem PySem.Spec PyProof.Rows L2 PL
def xTupF (z : Str) (f : PL.Env → Option RX) : PL.Env → Option RX := fun env => (f env).bind fun
  | .val d => some (.val (.tuple [.str z, d]))
  | .any => none
  | .er e => some (.er e)
section
variable {K : PySem.W.Frag} {X : Cx} {e : Expr} {te : WX → TE} {f : PL.Env → Option RX} {p pos : Pos} {z : Str} {j kk : Nat}
theorem xTup_ (h : XE_ K X e te f) (he1 : starEach [.Constant (.str z) j p, e] X.env = (false, eval (.Constant (.str z) j p) X.env) :: starEach [e] X.env := by rfl) (he : starEach [e] X.env = (false, eval e X.env) :: starEach [] X.env := by rfl) :
    XE_ K X (.Tuple [.Constant (.str z) j p, e] kk pos) (fun W => tTup (tCons (tC (.str z)) (tCons (te W) tNil))) (xTupF z f) := by
  refine ⟨fun W tk => pe_tup (pa_cons pe_str (pa_cons (h.pe W tk) pa_nil he) he1), ?_⟩
  intro base O0 O σ H env r W S ev Q q
  unfold xTupF at ev
  cases k : f env with
  | none => rw [k] at ev; cases ev
  | some r0 =>
    rw [k, Option.bind_some] at ev
    refine h.de base O0 O σ H env r0 W S k _ ?_
    cases r0 with
    | val d =>
      cases ev
      exact fun v H' x y rv => ⟨by show 2 ≤ sizeLine; decide, fun p hp => q (.ref p) _ (x.trans (Ex.new hp)) (y.trans (vis_mono (Ex.new hp))) (new_tup (S.mono x).all hp (.cons (.str z) (.cons rv .nil))).2⟩
    | any => cases ev
    | er e1 =>
      cases ev
      exact q
end
section
variable {K : PySem.W.Frag} {base : Hp} {O0 O : Hid} {σ : L2.St} {H H' : Hp} {env : PL.Env} {D : Ends} {e : ErrS} {cls : Value} {dO : Option Addr}
theorem errOk_mono (h : ErrOk e cls dO H) (x : Ex H H') : ErrOk e cls dO H' := by
  cases e with
  | at_ C d =>
    obtain ⟨a, dx, v, b, c, d'⟩ := h
    exact ⟨a, dx, v, b, x _ _ c, d'⟩
  | bare C => exact h
/-- a pair of a text and a place is handed back -/
theorem rt_pair {z : Str} {v : V} {d : PyData} {p : Addr} (S : Sat K base O0 O σ H env) (hv : (v = .non ∧ d = PyData.none) ∨ ∃ i, v = .int i ∧ d = .int i) (P : Post K base O0 (vis O H) D (.rt (.tuple [.str z, d]))) (x : Ex H H') (hp : H' p = none) : D.rt (.ref p) (upd H' p (.tup [.str z, v])) := by
  have ex : Ex H (upd H' p (.tup [.str z, v])) := x.trans (Ex.new hp)
  have rv : Rp K (vis O0 H') v d := by
    rcases hv with ⟨rfl, rfl⟩ | ⟨i, rfl, rfl⟩
    · exact .non
    · exact .int i
  refine P _ _ (S.ex.trans ex) ((vis_mono ex).trans (S.mono ex).out) (new_tup (fun a ha => (S.mono x).all a (S.sub a ha)) hp (.cons (.str z) (.cons rv .nil))).2
end
/-- what the written part tells of the classes PlotError, BadPlots, BadRows -/
structure ErrsS (K : PySem.W.Frag) (mg : Str → Option Value) (CE CP CR : Addr) : Prop where
  gE : mg "PlotError" = some (.ref CE)
  gP : mg "BadPlots" = some (.ref CP)
  gR : mg "BadRows" = some (.ref CR)
  fE : ErrF K CE
  fP : ErrF K CP
  fR : ErrF K CR
  xP : XfC K CP
  xR : XfC K CR
  nP : PySem.W.findIn K (.ref CP) "at" = some none
  nR : PySem.W.findIn K (.ref CR) "at" = some none
  pe : PySem.W.subIn K (.ref CP) (.ref CE) = some true
  re : PySem.W.subIn K (.ref CR) (.ref CE) = some true
  rp : PySem.W.subIn K (.ref CR) (.ref CP) = some false
def sAt (K : PySem.W.Frag) (i : Nat) (z : Str) (a : Addr) (cls : Value) (d : Option Addr) : TS := tRet (tTup (tCons (tC (.str z)) (tCons (atRead K a cls d i) tNil)))
def hS (CP CR : Addr) (i : Nat) (e : ErrS) (env : PL.Env) : Option Out := if env.length ≤ i then none else match e with
  | .at_ C d => if C = CP then some (.rt (.tuple [.str "plots", d])) else if C = CR then some (.rt (.tuple [.str "rows", d])) else none
  | .bare _ => none
def relInt : List V → Hp → VK → Prop := fun xs H Q => (∃ i, xs = [.int i] ∧ Q (.int i) H) ∨ ∃ k, xs = [.bl k] ∧ Q (.int (if k then 1 else 0)) H
def sAt2 (K : PySem.W.Frag) (CP : Addr) (i : Nat) (a : Addr) (cls : Value) (d : Option Addr) : TS :=
  tSeq (tIfS (tNot (tB (isRead K a cls d i (.ty "ValueError")))) (sAt K i "odd" a cls d) tNext)
    (tSeq (tRet (tTup (tCons (tOp (rIx K) (tLst (tCons (tC (.str "rows")) (tCons (tC (.str "plots")) tNil))) (tCB relInt (tCons (isRead K a cls d i (.ref CP)) tNil))) (tCons (atRead K a cls d i) tNil)))) tNext)
section
variable {K : PySem.W.Frag} {mg : Str → Option Value} {CE CP CR : Addr} {i : Nat}
theorem den_hS1 (R : ErrsS K mg CE CP CR) : DenH K [(.ref CP, i, sAt K i "plots"), (.ref CR, i, sAt K i "rows")] (hS CP CR i) := by
  intro base O0 O σ H env e o D cls dO S he ho P
  unfold hS at ho
  split at ho
  case isTrue => cases ho
  rename_i hlen
  have hi : i < σ.length := by rw [S.len]; omega
  have hσ : ∀ a : Addr, (σ.set i (some (.ref a)))[i]? = some (some (.ref a)) := fun a => List.getElem?_set_self hi
  cases e with
  | bare C => cases ho
  | at_ C d =>
    have hcl := he.1
    dsimp only at ho
    split at ho
    · rename_i hC
      cases ho
      refine ⟨true, by rw [hcl, hC]; exact exm_own R.fP R.fP.self, fun _ a ha => ?_, fun z => by cases z⟩
      exact atRead_of (hσ a) he (by rw [hC]; exact R.xP) (by rw [hC]; exact R.nP) fun v hv => ⟨by show 2 ≤ sizeLine; decide, fun p hp => rt_pair S hv P (Ex.refl _) hp⟩
    · split at ho
      · rename_i hC
        cases ho
        refine ⟨false, by rw [hcl, hC]; exact exm_own R.fP R.rp, (fun z => by cases z), fun _ => ⟨true, by rw [hcl, hC]; exact exm_own R.fR R.fR.self, fun _ a ha => ?_, fun z => by cases z⟩⟩
        exact atRead_of (hσ a) he (by rw [hC]; exact R.xR) (by rw [hC]; exact R.nR) fun v hv => ⟨by show 2 ≤ sizeLine; decide, fun p hp => rt_pair S hv P (Ex.refl _) hp⟩
      · cases ho
theorem den_hS2 (R : ErrsS K mg CE CP CR) : DenH K [(.ref CE, i, sAt2 K CP i)] (hS CP CR i) := by
  intro base O0 O σ H env e o D cls dO S he ho P
  unfold hS at ho
  split at ho
  case isTrue => cases ho
  rename_i hlen
  have hi : i < σ.length := by rw [S.len]; omega
  have hσ : ∀ a : Addr, (σ.set i (some (.ref a)))[i]? = some (some (.ref a)) := fun a => List.getElem?_set_self hi
  cases e with
  | bare C => cases ho
  | at_ C d =>
    have hcl := he.1
    dsimp only at ho
    have key : ∃ b : Bool, o = .rt (.tuple [.str (if b then "plots" else "rows"), d]) ∧ ErrF K C ∧ XfC K C ∧ PySem.W.findIn K (.ref C) "at" = some none ∧ PySem.W.subIn K (.ref C) (.ref CE) = some true ∧ PySem.W.subIn K (.ref C) (.ref CP) = some b := by
      split at ho
      · rename_i hC
        cases ho
        rw [hC]
        exact ⟨true, rfl, R.fP, R.xP, R.nP, R.pe, R.fP.self⟩
      · split at ho
        · rename_i hC
          cases ho
          rw [hC]
          exact ⟨false, rfl, R.fR, R.xR, R.nR, R.re, R.rp⟩
        · cases ho
    obtain ⟨b, rfl, F, hx, hn, h0, h1⟩ := key
    refine ⟨true, by rw [hcl]; exact exm_own R.fE h0, fun _ a ha => ?_, fun z => by cases z⟩
    refine isRead_of (hσ a) he F.exc (fun u r => r) (kit_ve F) ?_
    refine ⟨true, rfl, ?_⟩
    show tNext _ _ _
    refine ⟨by show 2 ≤ sizeLine; decide, fun q hq => ?_⟩
    have x1 : Ex H (upd H q (.lst [.str "rows", .str "plots"])) := Ex.new hq
    refine isRead_of (hσ a) (errOk_mono he x1) F.exc (fun u r => r) (kit_own R.fP h1) ?_
    refine .inr ⟨b, rfl, .inl ?_⟩
    refine ⟨q, [.str "rows", .str "plots"], (if b then 1 else 0 : Int), .str (if b then "plots" else "rows"), rfl, rfl, SqL.of upd_same, ?_, ?_⟩
    · cases b <;> rfl
    · refine atRead_of (hσ a) (errOk_mono he x1) hx hn fun v hv => ⟨by show 2 ≤ sizeLine; decide, fun p hp => ?_⟩
      exact rt_pair S hv P x1 hp
end
end PX
namespace K01
open PX PySem L2 PySem.Spec PyProof.Rows PL PR
section
variable {P : Program} {w : World} {K : PySem.W.Frag} {mg : Str → Option Value} {base : Heap}
/-! _law_at: _law_script 0, _law_k 1 -/
abbrev s__law_at : Stmt := topS 21
abbrev N__law_at : List Str := ["_law_script", "_law_k"]
theorem sc__law_at : FnScope N__law_at ["_law_script", "_law_k"] (defScope s__law_at) := ⟨rfl, rfl, rfl, by decide +kernel, rfl, by decide +kernel, by decide +kernel⟩
def F__law_at : PL.Env → Option Out := (sSeq (sIf (tE (e2 (gB fun i j => decide (i < j)) (eVarO 1) (eA gLen (aCons (eVarO 0) aNil)))) (sRet (e2 gIx (eVarO 0) (eVarO 1))) sNext)
    (sRet (eC (.int 0))))
def f__law_at : List PyData → Option PyData := fnD 2 F__law_at
theorem ok__law_at {f : Addr} {fd : FuncData} (F : Fun K "_law_at" "_law_at" s__law_at f fd) (T : Bt mg) : FnOk P w K mg base CX0 1 f fd ["_law_script", "_law_k"] (spD K 2 f__law_at) := by
  exact fn_den (N := N__law_at) F sc__law_at (by decide) fun cdv A outer s H E hr => by
    have hu : (A.deeper (envOfC "_law_at" (defScope s__law_at) s.heap.objs.size f cdv)).units + 65 < cLine := by have := hr.un; omega
    have hv : (A.deeper (envOfC "_law_at" (defScope s__law_at) s.heap.objs.size f cdv)).units + 1 < cLine := by omega
    exact ek_out (K := K) ((PL.bC (zIf (tcmp kLt (vO 1) (EP.o (fLen T.len (ha := (xC (vO 0) xN))))) (PL.b1 (zRet (ixx (vO 0) (vO 1)))) PL.b0)
    (PL.b1 (zRet cI))))

/-! _law_called: _law_cell 0, _law_k 1, _law_signs 2, _law_letters 3, _law_turned 4, _law_size 5, _law_tail 6, _law_at_here 7, _law_j 8 -/
abbrev s__law_called : Stmt := topS 22
abbrev N__law_called : List Str := ["_law_cell", "_law_k", "_law_signs", "_law_letters", "_law_turned", "_law_size", "_law_tail", "_law_at_here", "_law_j"]
theorem sc__law_called : FnScope N__law_called ["_law_cell", "_law_k", "_law_signs"] (defScope s__law_called) := ⟨rfl, rfl, rfl, by decide +kernel, rfl, by decide +kernel, by decide +kernel⟩
def F__law_called : PL.Env → Option Out := (sSeq (sAsg (eC (.str "abcdefghijklmnopqrstuvwxyz")) (tgN 3))
    (sSeq (sAsg (e2 gAdd (eVarO 0) (e2 (gIC cMul (· * ·)) (e2 (gIC cMul (· * ·)) (eC (.int 31)) (eVarO 1)) (e2 (gIC cMod (· % ·)) (eVarO 0) (eC (.int 2))))) (tgN 4))
    (sSeq (sAsg (e2 (gIC cMod (· % ·)) (e2 (gIC cDiv (· / ·)) (eVarO 4) (eC (.int 26))) (e2 (gI (· - ·)) (eC (.int 9)) (eA gLen (aCons (eVarO 2) aNil)))) (tgN 5))
    (sSeq (sAsg (e2 gJoin (eC (.str "")) (eL (nLc (iR1 (aCons (eVarO 5) aNil)) (tgN 8) (fun _ => some true) (e2 gIx (eVarO 3) (e2 (gIC cMod (· % ·)) (e2 gAdd (eVarO 4) (e2 (gIC cMul (· * ·)) (e2 (gIC cMul (· * ·)) (eC (.int 5)) (eVarO 8)) (e2 gAdd (eC (.int 1)) (e2 (gIC cMod (· % ·)) (eVarO 4) (eC (.int 3)))))) (eC (.int 26)))) [8]))) (tgN 6))
    (sSeq (sAsg (eVar 5) (tgN 7))
    (sSeq (sIf (tE (e2 gEq (e2 (gIC cMod (· % ·)) (eVarO 0) (eC (.int 2))) (eC (.int 0)))) (sAsg (e2 (gIC cMod (· % ·)) (e2 (gIC cDiv (· / ·)) (eVarO 0) (eC (.int 4))) (e2 gAdd (eVarO 5) (eC (.int 1)))) (tgN 7)) sNext)
    (sRet (e2 gAdd (e2 gAdd (eSlS (eVarO 6) oNone (oSome (eVarO 7))) (eVarO 2)) (eSlS (eVarO 6) (oSome (eVarO 7)) oNone)))))))))
def f__law_called : List PyData → Option PyData := fnD 9 F__law_called
theorem ok__law_called {f : Addr} {fd : FuncData} (F : Fun K "_law_called" "_law_called" s__law_called f fd) (T : Bt mg) : FnOk P w K mg base CX0 1 f fd ["_law_cell", "_law_k", "_law_signs"] (spD K 3 f__law_called) := by
  exact fn_den (N := N__law_called) F sc__law_called (by decide) fun cdv A outer s H E hr => by
    have hu : (A.deeper (envOfC "_law_called" (defScope s__law_called) s.heap.objs.size f cdv)).units + 65 < cLine := by have := hr.un; omega
    have hv : (A.deeper (envOfC "_law_called" (defScope s__law_called) s.heap.objs.size f cdv)).units + 1 < cLine := by omega
    exact ek_out (K := K) ((PL.bC (zAsg cS (gN (S := [3]) 3 sc__law_called.nd))
    (PL.bC (zAsg (bAdd (vO 0) (EP.o (bMul (EP.o (bMul (EP.o cI) (vO 1))) (EP.o (bMod (vO 0) (EP.o cI)))))) (gN (S := [4]) 4 sc__law_called.nd))
    (PL.bC (zAsg (bMod (EP.o (bDiv (vO 4) (EP.o cI))) (EP.o (bSub (EP.o cI) (EP.o (fLen T.len (ha := (xC (vO 2) xN))))))) (gN (S := [5]) 5 sc__law_called.nd))
    (PL.bC (zAsg (fJoin (EP.o cS) (EN.o (lcp [("_law_j", 8)] s sc__law_called.nd (EI.j (iRa T.range (xC (vO 5) xN))) (blkOk_by (own := [("_law_j", 8)]) (N := N__law_called) (sc := defScope s__law_called) (by decide +kernel)) (fun _ _ _ _ _ => (gN 8 sc__law_called.nd)) (fun _ _ _ _ _ => ts0) (fun _ _ _ _ _ => (ixx (vO 3) (EP.o (bMod (EP.o (bAdd (vO 4) (EP.o (bMul (EP.o (bMul (EP.o cI) (vO 8))) (EP.o (bAdd (EP.o cI) (EP.o (bMod (vO 4) (EP.o cI))))))))) (EP.o cI)))))))) (gN (S := [6]) 6 sc__law_called.nd))
    (PL.bC (zAsg (vP 5) (gN (S := [7]) 7 sc__law_called.nd))
    (PL.bC (zIf (tcmp (kEq hu) (EP.o (bMod (vO 0) (EP.o cI))) (EP.o cI)) (PL.b1 (zAsg (bMod (EP.o (bDiv (vO 0) (EP.o cI))) (EP.o (bAdd (vO 5) (EP.o cI)))) (gN (S := [7]) 7 sc__law_called.nd))) PL.b0)
    (PL.b1 (zRet (bAdd (EP.o (bAdd (EP.o (slS (vO 6) qN (qS (vO 7)))) (vO 2))) (EP.o (slS (vO 6) (qS (vO 7)) qN))))))))))))

/-! _law_plots: _law_script 0, _law_many 1, _law_plots_here 2, _law_k 3, _law_pick 4, _law_outer 5 -/
abbrev s__law_plots : Stmt := topS 23
abbrev N__law_plots : List Str := ["_law_script", "_law_many", "_law_plots_here", "_law_k", "_law_pick", "_law_outer"]
theorem sc__law_plots : FnScope N__law_plots ["_law_script"] (defScope s__law_plots) := ⟨rfl, rfl, rfl, by decide +kernel, rfl, by decide +kernel, by decide +kernel⟩
def F__law_plots : PL.Env → Option Out := (sSeq (sAsg (e2 gAdd (eC (.int 1)) (e2 (gIC cMod (· % ·)) (eA (fun ds => if ds.length = 2 then f__law_at ds else none) (aCons (eVar 0) (aCons (eC (.int 0)) aNil))) (eC (.int 4)))) (tgN 1))
    (sSeq (sIf (tE (e2 gEq (e2 (gIC cMod (· % ·)) (e2 (gIC cDiv (· / ·)) (eA (fun ds => if ds.length = 2 then f__law_at ds else none) (aCons (eVar 0) (aCons (eC (.int 0)) aNil))) (eC (.int 4))) (eC (.int 8))) (eC (.int 1)))) (sAsg (e2 (gI (· - ·)) (eC (.int 12)) (e2 (gIC cMod (· % ·)) (e2 (gIC cDiv (· / ·)) (eA (fun ds => if ds.length = 2 then f__law_at ds else none) (aCons (eVar 0) (aCons (eC (.int 0)) aNil))) (eC (.int 32))) (eC (.int 8)))) (tgN 1)) sNext)
    (sSeq (sOwn (nLst aNil) 2)
    (sSeq (sFor (iR1 (aCons (eVarO 1) aNil)) (tgN 3) (sSeq (sAsg (e2 (gIC cMod (· % ·)) (e2 (gIC cMod (· % ·)) (e2 (gIC cMul (· * ·)) (e2 gAdd (eA (fun ds => if ds.length = 2 then f__law_at ds else none) (aCons (eVar 0) (aCons (eC (.int 1)) aNil))) (e2 (gIC cMul (· * ·)) (eC (.int 7)) (eVarO 3))) (eC (.int 48271))) (eC (.int 10007))) (e2 gAdd (eVarO 3) (eC (.int 1)))) (tgN 4))
    (sSeq (sIf (tA (tE (e2 gEq (e2 (gIC cMod (· % ·)) (eA (fun ds => if ds.length = 2 then f__law_at ds else none) (aCons (eVar 0) (aCons (eC (.int 1)) aNil))) (eC (.int 4))) (eC (.int 3)))) (tE (e2 (gB fun i j => decide (j < i)) (eVarO 3) (eC (.int 0))))) (sAsg (e2 (gI (· - ·)) (eVarO 3) (eC (.int 1))) (tgN 4)) sNext)
    (sSeq (sAsg (eC .none) (tgN 5))
    (sSeq (sIf (tE (e2 (gB fun i j => decide (i < j)) (eVarO 4) (eVarO 3))) (sAsg (e2 gIx (e2 gIx (eVarO 2) (eVarO 4)) (eC (.int 0))) (tgN 5)) sNext)
    (sApp 2 (eTup (aCons (eA (fun ds => if ds.length = 3 then f__law_called ds else none) (aCons (e2 (gIC cDiv (· / ·)) (eA (fun ds => if ds.length = 2 then f__law_at ds else none) (aCons (eVar 0) (aCons (eC (.int 1)) aNil))) (eC (.int 3))) (aCons (eVar 3) (aCons (e2 gIx (eC (.str "abcdefghijkl")) (eVarO 3)) aNil)))) (aCons (eVar 5) aNil)))))))))
    (sRetO 2)))))
def f__law_plots : List PyData → Option (List PyData) := fnN 6 F__law_plots
theorem ok__law_plots {f : Addr} {fd : FuncData} (F : Fun K "_law_plots" "_law_plots" s__law_plots f fd) (T : Bt mg) (C_law_at : Cal P w K mg base 1 "_law_at" 2 ["_law_script", "_law_k"] f__law_at) (C_law_called : Cal P w K mg base 1 "_law_called" 3 ["_law_cell", "_law_k", "_law_signs"] f__law_called) : FnOk P w K mg base CX0 2 f fd ["_law_script"] (spN K 1 f__law_plots) := by
  exact fn_denN (N := N__law_plots) F sc__law_plots (by decide) fun cdv A outer s H E hr => by
    have hu : (A.deeper (envOfC "_law_plots" (defScope s__law_plots) s.heap.objs.size f cdv)).units + 65 < cLine := by have := hr.un; omega
    have hv : (A.deeper (envOfC "_law_plots" (defScope s__law_plots) s.heap.objs.size f cdv)).units + 1 < cLine := by omega
    exact ek_out (K := K) ((PL.bC (zAsg (bAdd (EP.o cI) (EP.o (bMod (EP.o (cal1 C_law_at hr (by decide) (yC (vP 0) (yC cI yN)))) (EP.o cI)))) (gN (S := [1]) 1 sc__law_plots.nd))
    (PL.bC (zIf (tcmp (kEq hu) (EP.o (bMod (EP.o (bDiv (EP.o (cal1 C_law_at hr (by decide) (yC (vP 0) (yC cI yN)))) (EP.o cI))) (EP.o cI))) (EP.o cI)) (PL.b1 (zAsg (bSub (EP.o cI) (EP.o (bMod (EP.o (bDiv (EP.o (cal1 C_law_at hr (by decide) (yC (vP 0) (yC cI yN)))) (EP.o cI))) (EP.o cI)))) (gN (S := [1]) 1 sc__law_plots.nd))) PL.b0)
    (PL.bC (zOwn 2 sc__law_plots.nd (dLst yN))
    (PL.bC (zFor (S := [3]) PassesOwn.never (iRa T.range (xC (vO 1) xN)) (gN 3 sc__law_plots.nd) (PL.bC (zAsg (bMod (EP.o (bMod (EP.o (bMul (EP.o (bAdd (EP.o (cal1 C_law_at hr (by decide) (yC (vP 0) (yC cI yN)))) (EP.o (bMul (EP.o cI) (vO 3))))) (EP.o cI))) (EP.o cI))) (EP.o (bAdd (vO 3) (EP.o cI)))) (gN (S := [4]) 4 sc__law_plots.nd))
    (PL.bC (zIf (EW.tt (wA (tcmp (kEq hu) (EP.o (bMod (EP.o (cal1 C_law_at hr (by decide) (yC (vP 0) (yC cI yN)))) (EP.o cI))) (EP.o cI)) (wA1 (tcmp kGt (vO 3) (EP.o cI))))) (PL.b1 (zAsg (bSub (vO 3) (EP.o cI)) (gN (S := [4]) 4 sc__law_plots.nd))) PL.b0)
    (PL.bC (zAsg cN (gN (S := [5]) 5 sc__law_plots.nd))
    (PL.bC (zIf (tcmp kLt (vO 4) (vO 3)) (PL.b1 (zAsg (ixx (EP.o (ixx (vO 2) (vO 4))) (EP.o cI)) (gN (S := [5]) 5 sc__law_plots.nd))) PL.b0)
    (PL.b1 (zApp 2 (vO 2) (dTup (yC (cal1 C_law_called hr (by decide) (yC (bDiv (EP.o (cal1 C_law_at hr (by decide) (yC (vP 0) (yC cI yN)))) (EP.o cI)) (yC (vP 3) (yC (ixx (EP.o cS) (vO 3)) yN)))) (yC (vP 5) yN))))))))))
    (PL.b1 (zRetO 2 (vO 2))))))))

/-! _law_names: _law_script 0, _law_plots_here 1, _law_cell 2, _law_many 3, _law_ends 4, _law_k 5, _law_plot 6, _law_outer 7 -/
abbrev s__law_names : Stmt := topS 24
abbrev N__law_names : List Str := ["_law_script", "_law_plots_here", "_law_cell", "_law_many", "_law_ends", "_law_k", "_law_plot", "_law_outer"]
theorem sc__law_names : FnScope N__law_names ["_law_script", "_law_plots_here"] (defScope s__law_names) := ⟨rfl, rfl, rfl, by decide +kernel, rfl, by decide +kernel, by decide +kernel⟩
def F__law_names : PL.Env → Option Out := (sSeq (sAsg (eA (fun ds => if ds.length = 2 then f__law_at ds else none) (aCons (eVar 0) (aCons (eC (.int 2)) aNil))) (tgN 2))
    (sSeq (sAsg (e2 gAdd (eC (.int 1)) (e2 (gIC cMod (· % ·)) (eVarO 2) (eC (.int 5)))) (tgN 3))
    (sSeq (sIf (tE (e2 gEq (e2 (gIC cMod (· % ·)) (e2 (gIC cDiv (· / ·)) (eVarO 2) (eC (.int 5))) (eC (.int 16))) (eC (.int 3)))) (sAsg (eC (.int 60)) (tgN 3)) sNext)
    (sSeq (sIf (tE (e2 gEq (e2 (gIC cMod (· % ·)) (e2 (gIC cDiv (· / ·)) (eVarO 2) (eC (.int 5))) (eC (.int 4))) (eC (.int 1)))) (sRetN (nSl (eL (nLc (iLS (eVarO 1)) (tgT 2 (tgCons (tgN 6) (tgCons (tgN 7) tgNil))) (fun _ => some true) (eVar 6) [6, 7])) oNone (oSome (eVarO 3)))) sNext)
    (sSeq (sAsg (eC (.str "zyxwvutsrqponmlkjihgfedcba")) (tgN 4))
    (sRetN (nLc (iR1 (aCons (eVarO 3) aNil)) (tgN 5) (fun _ => some true) (eA (fun ds => if ds.length = 3 then f__law_called ds else none) (aCons (e2 (gIC cDiv (· / ·)) (eVarO 2) (eC (.int 80))) (aCons (eVar 5) (aCons (e2 gAdd (e2 gIx (eC (.str "abc")) (e2 (gIC cDiv (· / ·)) (eVarO 5) (eC (.int 26)))) (e2 gIx (eVarO 4) (e2 (gIC cMod (· % ·)) (eVarO 5) (eC (.int 26))))) aNil)))) [5])))))))
def f__law_names : List PyData → Option (List PyData) := fnN 8 F__law_names
theorem ok__law_names {f : Addr} {fd : FuncData} (F : Fun K "_law_names" "_law_names" s__law_names f fd) (T : Bt mg) (C_law_at : Cal P w K mg base 1 "_law_at" 2 ["_law_script", "_law_k"] f__law_at) (C_law_called : Cal P w K mg base 1 "_law_called" 3 ["_law_cell", "_law_k", "_law_signs"] f__law_called) : FnOk P w K mg base CX0 2 f fd ["_law_script", "_law_plots_here"] (spN K 2 f__law_names) := by
  exact fn_denN (N := N__law_names) F sc__law_names (by decide) fun cdv A outer s H E hr => by
    have hu : (A.deeper (envOfC "_law_names" (defScope s__law_names) s.heap.objs.size f cdv)).units + 65 < cLine := by have := hr.un; omega
    have hv : (A.deeper (envOfC "_law_names" (defScope s__law_names) s.heap.objs.size f cdv)).units + 1 < cLine := by omega
    exact ek_out (K := K) ((PL.bC (zAsg (cal1 C_law_at hr (by decide) (yC (vP 0) (yC cI yN))) (gN (S := [2]) 2 sc__law_names.nd))
    (PL.bC (zAsg (bAdd (EP.o cI) (EP.o (bMod (vO 2) (EP.o cI)))) (gN (S := [3]) 3 sc__law_names.nd))
    (PL.bC (zIf (tcmp (kEq hu) (EP.o (bMod (EP.o (bDiv (vO 2) (EP.o cI))) (EP.o cI))) (EP.o cI)) (PL.b1 (zAsg cI (gN (S := [3]) 3 sc__law_names.nd))) PL.b0)
    (PL.bC (zIf (tcmp (kEq hu) (EP.o (bMod (EP.o (bDiv (vO 2) (EP.o cI))) (EP.o cI))) (EP.o cI)) (PL.b1 (zRetN (slL (EN.o (lcp [("_law_plot", 6), ("_law_outer", 7)] s sc__law_names.nd (jL (vO 1)) (blkOk_by (own := [("_law_plot", 6), ("_law_outer", 7)]) (N := N__law_names) (sc := defScope s__law_names) (by decide +kernel)) (fun _ _ _ _ _ => (gT (gsC (gN 6 sc__law_names.nd) (gsC (gN 7 sc__law_names.nd) gs0)))) (fun _ _ _ _ _ => ts0) (fun _ _ _ _ _ => (vP 6)))) qN (qS (vO 3))))) PL.b0)
    (PL.bC (zAsg cS (gN (S := [4]) 4 sc__law_names.nd))
    (PL.b1 (zRetN (lcp [("_law_k", 5)] s sc__law_names.nd (EI.j (iRa T.range (xC (vO 3) xN))) (blkOk_by (own := [("_law_k", 5)]) (N := N__law_names) (sc := defScope s__law_names) (by decide +kernel)) (fun _ _ _ _ _ => (gN 5 sc__law_names.nd)) (fun _ _ _ _ _ => ts0) (fun _ _ _ _ _ => (cal1 C_law_called hr (by decide) (yC (bDiv (vO 2) (EP.o cI)) (yC (vP 5) (yC (bAdd (EP.o (ixx (EP.o cS) (EP.o (bDiv (vO 5) (EP.o cI))))) (EP.o (ixx (vO 4) (EP.o (bMod (vO 5) (EP.o cI)))))) yN))))))))))))))

/-! _law_row: _law_cell 0, _law_plots_here 1, _law_names_here 2, _law_size 3, _law_more 4, _law_name_here 5, _law_other 6, _law_plot 7, _law_number 8, _law_place 9, _law_kind 10 -/
abbrev s__law_row : Stmt := topS 25
abbrev N__law_row : List Str := ["_law_cell", "_law_plots_here", "_law_names_here", "_law_size", "_law_more", "_law_name_here", "_law_other", "_law_plot", "_law_number", "_law_place", "_law_kind"]
theorem sc__law_row : FnScope N__law_row ["_law_cell", "_law_plots_here", "_law_names_here", "_law_size"] (defScope s__law_row) := ⟨rfl, rfl, rfl, by decide +kernel, rfl, by decide +kernel, by decide +kernel⟩
def F__law_row : PL.Env → Option Out := (sSeq (sAsg (e2 (gIC cMod (· % ·)) (e2 gAdd (e2 (gIC cMul (· * ·)) (e2 (gIC cDiv (· / ·)) (eVarO 0) (eC (.int 10))) (eC (.int 48271))) (eC (.int 11))) (eC (.int 1000003))) (tgN 4))
    (sSeq (sAsg (e2 gIx (eVarO 2) (e2 (gIC cMod (· % ·)) (eVarO 4) (eA gLen (aCons (eVarO 2) aNil)))) (tgN 5))
    (sSeq (sAsg (e2 gIx (eVarO 2) (e2 (gIC cMod (· % ·)) (e2 (gIC cDiv (· / ·)) (eVarO 4) (eC (.int 7))) (eA gLen (aCons (eVarO 2) aNil)))) (tgN 6))
    (sSeq (sAsg (e2 gIx (e2 gIx (eVarO 1) (e2 (gIC cMod (· % ·)) (e2 (gIC cDiv (· / ·)) (eVarO 4) (eC (.int 61))) (eA gLen (aCons (eVarO 1) aNil)))) (eC (.int 0))) (tgN 7))
    (sSeq (sAsg (e2 (gI (· - ·)) (e2 (gIC cMod (· % ·)) (e2 (gIC cDiv (· / ·)) (eVarO 0) (eC (.int 10))) (eC (.int 19))) (eC (.int 9))) (tgN 8))
    (sSeq (sIf (tE (e2 gEq (e2 (gIC cMod (· % ·)) (eVarO 4) (eC (.int 4))) (eC (.int 1)))) (sAsg (e2 (gI (· - ·)) (e2 (gIC cMod (· % ·)) (e2 (gIC cDiv (· / ·)) (eVarO 0) (eC (.int 10))) (eC (.int 2000000000000000001))) (eC (.int 1000000000000000000))) (tgN 8)) sNext)
    (sSeq (sAsg (e2 (gIC cMod (· % ·)) (e2 (gIC cDiv (· / ·)) (eVarO 4) (eC (.int 1013))) (e2 gAdd (eVarO 3) (eC (.int 1)))) (tgN 9))
    (sSeq (sAsg (e2 (gIC cMod (· % ·)) (eVarO 0) (eC (.int 10))) (tgN 10))
    (sSeq (sIf (tE (e2 (gB fun i j => decide (i < j)) (eVarO 10) (eC (.int 2)))) (sRet (e2 gIx (eL (nLst (aCons (eTup (aCons (eC (.str "open")) (aCons (eVar 7) aNil))) (aCons (eTup (aCons (eC (.str "lay")) (aCons (eVar 5) (aCons (eVar 7) (aCons (eVar 8) aNil))))) aNil)))) (eVarO 10))) sNext)
    (sSeq (sIf (tE (e2 (gB fun i j => decide (i < j)) (eVarO 10) (eC (.int 6)))) (sRet (e2 gIx (eL (nLst (aCons (eTup (aCons (eC (.str "copy")) (aCons (eVar 5) (aCons (eVar 6) (aCons (eVar 7) aNil))))) (aCons (eTup (aCons (eC (.str "same")) (aCons (eVar 5) (aCons (eVar 6) aNil)))) (aCons (eTup (aCons (eC (.str "add")) (aCons (eVar 5) (aCons (eVar 6) aNil)))) (aCons (eTup (aCons (eC (.str "tell")) (aCons (eVar 5) aNil))) aNil)))))) (e2 (gI (· - ·)) (eVarO 10) (eC (.int 2))))) sNext)
    (sRet (e2 gIx (eL (nLst (aCons (eTup (aCons (eC (.str "give")) (aCons (eVar 7) aNil))) (aCons (eTup (aCons (eC (.str "fork")) (aCons (eVar 9) aNil))) (aCons (eTup (aCons (eC (.str "go")) (aCons (eVar 9) aNil))) (aCons (eTup (aCons (eC (.str "end")) aNil)) aNil)))))) (e2 (gI (· - ·)) (eVarO 10) (eC (.int 6)))))))))))))))
def f__law_row : List PyData → Option PyData := fnD 11 F__law_row
theorem ok__law_row {f : Addr} {fd : FuncData} (F : Fun K "_law_row" "_law_row" s__law_row f fd) (T : Bt mg) : FnOk P w K mg base CX0 1 f fd ["_law_cell", "_law_plots_here", "_law_names_here", "_law_size"] (spD K 4 f__law_row) := by
  exact fn_den (N := N__law_row) F sc__law_row (by decide) fun cdv A outer s H E hr => by
    have hu : (A.deeper (envOfC "_law_row" (defScope s__law_row) s.heap.objs.size f cdv)).units + 65 < cLine := by have := hr.un; omega
    have hv : (A.deeper (envOfC "_law_row" (defScope s__law_row) s.heap.objs.size f cdv)).units + 1 < cLine := by omega
    exact ek_out (K := K) ((PL.bC (zAsg (bMod (EP.o (bAdd (EP.o (bMul (EP.o (bDiv (vO 0) (EP.o cI))) (EP.o cI))) (EP.o cI))) (EP.o cI)) (gN (S := [4]) 4 sc__law_row.nd))
    (PL.bC (zAsg (ixx (vO 2) (EP.o (bMod (vO 4) (EP.o (fLen T.len (ha := (xC (vO 2) xN))))))) (gN (S := [5]) 5 sc__law_row.nd))
    (PL.bC (zAsg (ixx (vO 2) (EP.o (bMod (EP.o (bDiv (vO 4) (EP.o cI))) (EP.o (fLen T.len (ha := (xC (vO 2) xN))))))) (gN (S := [6]) 6 sc__law_row.nd))
    (PL.bC (zAsg (ixx (EP.o (ixx (vO 1) (EP.o (bMod (EP.o (bDiv (vO 4) (EP.o cI))) (EP.o (fLen T.len (ha := (xC (vO 1) xN)))))))) (EP.o cI)) (gN (S := [7]) 7 sc__law_row.nd))
    (PL.bC (zAsg (bSub (EP.o (bMod (EP.o (bDiv (vO 0) (EP.o cI))) (EP.o cI))) (EP.o cI)) (gN (S := [8]) 8 sc__law_row.nd))
    (PL.bC (zIf (tcmp (kEq hu) (EP.o (bMod (vO 4) (EP.o cI))) (EP.o cI)) (PL.b1 (zAsg (bSub (EP.o (bMod (EP.o (bDiv (vO 0) (EP.o cI))) (EP.o cI))) (EP.o cI)) (gN (S := [8]) 8 sc__law_row.nd))) PL.b0)
    (PL.bC (zAsg (bMod (EP.o (bDiv (vO 4) (EP.o cI))) (EP.o (bAdd (vO 3) (EP.o cI)))) (gN (S := [9]) 9 sc__law_row.nd))
    (PL.bC (zAsg (bMod (vO 0) (EP.o cI)) (gN (S := [10]) 10 sc__law_row.nd))
    (PL.bC (zIf (tcmp kLt (vO 10) (EP.o cI)) (PL.b1 (zRet (ixx (EN.o (dLst (yC (dTup (yC cS (yC (vP 7) yN))) (yC (dTup (yC cS (yC (vP 5) (yC (vP 7) (yC (vP 8) yN))))) yN)))) (vO 10)))) PL.b0)
    (PL.bC (zIf (tcmp kLt (vO 10) (EP.o cI)) (PL.b1 (zRet (ixx (EN.o (dLst (yC (dTup (yC cS (yC (vP 5) (yC (vP 6) (yC (vP 7) yN))))) (yC (dTup (yC cS (yC (vP 5) (yC (vP 6) yN)))) (yC (dTup (yC cS (yC (vP 5) (yC (vP 6) yN)))) (yC (dTup (yC cS (yC (vP 5) yN))) yN)))))) (EP.o (bSub (vO 10) (EP.o cI)))))) PL.b0)
    (PL.b1 (zRet (ixx (EN.o (dLst (yC (dTup (yC cS (yC (vP 7) yN))) (yC (dTup (yC cS (yC (vP 9) yN))) (yC (dTup (yC cS (yC (vP 9) yN))) (yC (dTup (yC cS yN)) yN)))))) (EP.o (bSub (vO 10) (EP.o cI)))))))))))))))))

/-! _law_whole: _law_thing 0 -/
abbrev s__law_whole : Stmt := topS 26
abbrev N__law_whole : List Str := ["_law_thing"]
theorem sc__law_whole : FnScope N__law_whole ["_law_thing"] (defScope s__law_whole) := ⟨rfl, rfl, rfl, by decide +kernel, rfl, by decide +kernel, by decide +kernel⟩
def F__law_whole : PL.Env → Option Out := (sRet (eAndB (e1 (gIsi "int") (eVarO 0)) (eNotB (e1 (gIsi "bool") (eVarO 0)))))
def f__law_whole : List PyData → Option PyData := fnD 1 F__law_whole
theorem ok__law_whole {f : Addr} {fd : FuncData} (F : Fun K "_law_whole" "_law_whole" s__law_whole f fd) (T : Bt mg) : FnOk P w K mg base CX0 1 f fd ["_law_thing"] (spD K 1 f__law_whole) := by
  exact fn_den (N := N__law_whole) F sc__law_whole (by decide) fun cdv A outer s H E hr => by
    have hu : (A.deeper (envOfC "_law_whole" (defScope s__law_whole) s.heap.objs.size f cdv)).units + 65 < cLine := by have := hr.un; omega
    have hv : (A.deeper (envOfC "_law_whole" (defScope s__law_whole) s.heap.objs.size f cdv)).units + 1 < cLine := by omega
    exact ek_out (K := K) ((PL.b1 (zRet (vAnd (EP.o (fIsi "int" T.isinstance T.int (ha := (vO 0)))) (vOne (vNot (EP.o (fIsi "bool" T.isinstance T.bool (ha := (vO 0))))))))))

end
end K01
namespace K01
open PX PySem L2 PySem.Spec PyProof.Rows PL PR
section
variable {P : Program} {w : World} {K : PySem.W.Frag} {mg : Str → Option Value} {base : Heap}
/-! _law_name: _law_thing 0, _law_sign_here 1 -/
abbrev s__law_name : Stmt := topS 27
abbrev N__law_name : List Str := ["_law_thing", "_law_sign_here"]
theorem sc__law_name : FnScope N__law_name ["_law_thing"] (defScope s__law_name) := ⟨rfl, rfl, rfl, by decide +kernel, rfl, by decide +kernel, by decide +kernel⟩
def F__law_name : PL.Env → Option Out := (sSeq (sIf (tO (tN (tE (e1 (gIsi "str") (eVarO 0)))) (tO (tE (e2 (gB fun i j => decide (i < j)) (eA gLen (aCons (eVarO 0) aNil)) (eC (.int 1)))) (tE (e2 (gB fun i j => decide (j < i)) (eA gLen (aCons (eVarO 0) aNil)) (eC (.int 8)))))) (sRet (eC (.bool false))) sNext)
    (sRet (e2 gEq (eL (nLc (iS (eVarO 0)) (tgN 1) (tE (e2 (gInS true) (eVarO 1) (eC (.str "abcdefghijklmnopqrstuvwxyz")))) (eVar 1) [1])) (eL (nLst aNil)))))
def f__law_name : List PyData → Option PyData := fnD 2 F__law_name
theorem ok__law_name {f : Addr} {fd : FuncData} (F : Fun K "_law_name" "_law_name" s__law_name f fd) (T : Bt mg) : FnOk P w K mg base CX0 1 f fd ["_law_thing"] (spD K 1 f__law_name) := by
  exact fn_den (N := N__law_name) F sc__law_name (by decide) fun cdv A outer s H E hr => by
    have hu : (A.deeper (envOfC "_law_name" (defScope s__law_name) s.heap.objs.size f cdv)).units + 65 < cLine := by have := hr.un; omega
    have hv : (A.deeper (envOfC "_law_name" (defScope s__law_name) s.heap.objs.size f cdv)).units + 1 < cLine := by omega
    exact ek_out (K := K) ((PL.bC (zIf (EW.tt (wO (tNot_ (tVal (EP.o (fIsi "str" T.isinstance T.str (ha := (vO 0)))))) (wO (tcmp kLt (EP.o (fLen T.len (ha := (xC (vO 0) xN)))) (EP.o cI)) (wO1 (tcmp kGt (EP.o (fLen T.len (ha := (xC (vO 0) xN)))) (EP.o cI)))))) (PL.b1 (zRet cB)) PL.b0)
    (PL.b1 (zRet (cmp (kEq hu) (EN.o (lcp [("_law_sign_here", 1)] s sc__law_name.nd (EI.j (iSt (vO 0))) (blkOk_by (own := [("_law_sign_here", 1)]) (N := N__law_name) (sc := defScope s__law_name) (by decide +kernel)) (fun _ _ _ _ _ => (gN 1 sc__law_name.nd)) (fun _ _ _ _ _ => (ts1 (tcmp kNiS (vO 1) (EP.o cS)))) (fun _ _ _ _ _ => (vP 1)))) (EN.o (dLst yN)))))))

/-! _law_bad_pair: _law_plots_here 0, _law_ahead 1, _law_at_here 2, _law_pair_here 3 -/
abbrev s__law_bad_pair : Stmt := topS 28
abbrev N__law_bad_pair : List Str := ["_law_plots_here", "_law_ahead", "_law_at_here", "_law_pair_here"]
theorem sc__law_bad_pair : FnScope N__law_bad_pair ["_law_plots_here"] (defScope s__law_bad_pair) := ⟨rfl, rfl, rfl, by decide +kernel, rfl, by decide +kernel, by decide +kernel⟩
def F__law_bad_pair : PL.Env → Option Out := (sSeq (sIf (tO (tN (tE (e1 (gIsi "list") (eVarO 0)))) (tE (e2 (gB fun i j => decide (j < i)) (eA gLen (aCons (eVarO 0) aNil)) (eC (.int 12))))) (sRet (eTup (aCons (eC (.bool true)) (aCons (eC .none) aNil)))) sNext)
    (sSeq (sOwn (nLst aNil) 1)
    (sSeq (sFor (iEn (aCons (eVar 0) aNil)) (tgT 2 (tgCons (tgN 2) (tgCons (tgN 3) tgNil))) (sSeq (sIf (tO (tN (tE (e1 (gIsi "tuple") (eVarO 3)))) (tO (tE (e2 gNe (eA gLen (aCons (eVarO 3) aNil)) (eC (.int 2)))) (tO (tN (tE (eA (fun ds => if ds.length = 1 then f__law_name ds else none) (aCons (e2 gIx (eVarO 3) (eC (.int 0))) aNil)))) (tE (e2 (gInL false) (e2 gIx (eVarO 3) (eC (.int 0))) (eVarO 1)))))) (sRet (eTup (aCons (eC (.bool true)) (aCons (eVar 2) aNil)))) sNext)
    (sSeq (sIf (tA (tE (e1 (gIsN true) (e2 gIx (eVarO 3) (eC (.int 1))))) (tO (tN (tE (eA (fun ds => if ds.length = 1 then f__law_name ds else none) (aCons (e2 gIx (eVarO 3) (eC (.int 1))) aNil)))) (tE (e2 (gInL true) (e2 gIx (eVarO 3) (eC (.int 1))) (eVarO 1))))) (sRet (eTup (aCons (eC (.bool true)) (aCons (eVar 2) aNil)))) sNext)
    (sApp 1 (e2 gIx (eVarO 3) (eC (.int 0)))))))
    (sRet (eTup (aCons (eC (.bool false)) (aCons (eC .none) aNil)))))))
def f__law_bad_pair : List PyData → Option PyData := fnD 4 F__law_bad_pair
theorem ok__law_bad_pair {f : Addr} {fd : FuncData} (F : Fun K "_law_bad_pair" "_law_bad_pair" s__law_bad_pair f fd) (T : Bt mg) (C_law_name : Cal P w K mg base 1 "_law_name" 1 ["_law_thing"] f__law_name) : FnOk P w K mg base CX0 2 f fd ["_law_plots_here"] (spD K 1 f__law_bad_pair) := by
  exact fn_den (N := N__law_bad_pair) F sc__law_bad_pair (by decide) fun cdv A outer s H E hr => by
    have hu : (A.deeper (envOfC "_law_bad_pair" (defScope s__law_bad_pair) s.heap.objs.size f cdv)).units + 65 < cLine := by have := hr.un; omega
    have hv : (A.deeper (envOfC "_law_bad_pair" (defScope s__law_bad_pair) s.heap.objs.size f cdv)).units + 1 < cLine := by omega
    exact ek_out (K := K) ((PL.bC (zIf (EW.tt (wO (tNot_ (tVal (EP.o (fIsi "list" T.isinstance T.list (ha := (vO 0)))))) (wO1 (tcmp kGt (EP.o (fLen T.len (ha := (xC (vO 0) xN)))) (EP.o cI))))) (PL.b1 (zRet (dTup (yC cB (yC cN yN))))) PL.b0)
    (PL.bC (zOwn 1 sc__law_bad_pair.nd (dLst yN))
    (PL.bC (zFor (S := [2, 3]) PassesOwn.never (iEn_ T.enumerate (yC (vP 0) yN)) (gT (gsC (gN 2 sc__law_bad_pair.nd) (gsC (gN 3 sc__law_bad_pair.nd) gs0))) (PL.bC (zIf (EW.tt (wO (tNot_ (tVal (EP.o (fIsi "tuple" T.isinstance T.tuple (ha := (vO 3)))))) (wO (tcmp (kNe hu) (EP.o (fLen T.len (ha := (xC (vO 3) xN)))) (EP.o cI)) (wO (tNot_ (tVal (EP.o (cal1 C_law_name hr (by decide) (yC (ixx (vO 3) (EP.o cI)) yN))))) (wO1 (tcmp (kInL hu) (EP.o (ixx (vO 3) (EP.o cI))) (vO 1))))))) (PL.b1 (zRet (dTup (yC cB (yC (vP 2) yN))))) PL.b0)
    (PL.bC (zIf (EW.tt (wA (tNotN_ (EP.o (ixx (vO 3) (EP.o cI)))) (wA1 (EW.tt (wO (tNot_ (tVal (EP.o (cal1 C_law_name hr (by decide) (yC (ixx (vO 3) (EP.o cI)) yN))))) (wO1 (tcmp (kNiL hu) (EP.o (ixx (vO 3) (EP.o cI))) (vO 1)))))))) (PL.b1 (zRet (dTup (yC cB (yC (vP 2) yN))))) PL.b0)
    (PL.b1 (zApp 1 (vO 1) (ixx (vO 3) (EP.o cI)))))))
    (PL.b1 (zRet (dTup (yC cB (yC cN yN)))))))))

/-! _law_good_row: _law_row_here 0, _law_known 1, _law_size 2, _law_forms 3, _law_form 4, _law_thing 5 -/
abbrev s__law_good_row : Stmt := topS 29
abbrev N__law_good_row : List Str := ["_law_row_here", "_law_known", "_law_size", "_law_forms", "_law_form", "_law_thing"]
theorem sc__law_good_row : FnScope N__law_good_row ["_law_row_here", "_law_known", "_law_size"] (defScope s__law_good_row) := ⟨rfl, rfl, rfl, by decide +kernel, rfl, by decide +kernel, by decide +kernel⟩
def F__law_good_row : PL.Env → Option Out := (sSeq (sIf (tO (tN (tE (e1 (gIsi "tuple") (eVarO 0)))) (tO (tE (e2 gEq (eA gLen (aCons (eVarO 0) aNil)) (eC (.int 0)))) (tN (tE (e1 (gIsi "str") (e2 gIx (eVarO 0) (eC (.int 0)))))))) (sRet (eC (.bool false))) sNext)
    (sSeq (sDict2 3 ["open", "lay", "copy", "same", "add", "tell", "give"] (aCons (eC (.str "p")) (aCons (eC (.str "npw")) (aCons (eC (.str "nnp")) (aCons (eC (.str "nn")) (aCons (eC (.str "nn")) (aCons (eC (.str "n")) (aCons (eC (.str "p")) aNil))))))) ["fork", "go", "end"] (aCons (eC (.str "a")) (aCons (eC (.str "a")) (aCons (eC (.str "")) aNil))))
    (sSeq (sIf (tO (tE (e2 (gDin true) (e2 gIx (eVarO 0) (eC (.int 0))) (eVar 3))) (tE (e2 gNe (eA gLen (aCons (eVarO 0) aNil)) (e2 gAdd (eC (.int 1)) (eA gLen (aCons (e2 gDg (eVar 3) (e2 gIx (eVarO 0) (eC (.int 0)))) aNil)))))) (sRet (eC (.bool false))) sNext)
    (sSeq (sFor (iZs (aCons (e2 gDg (eVar 3) (e2 gIx (eVarO 0) (eC (.int 0)))) (aCons (eSlT (eVarO 0) (oSome (eC (.int 1))) oNone) aNil))) (tgT 2 (tgCons (tgN 4) (tgCons (tgN 5) tgNil))) (sSeq (sIf (tA (tE (e2 gEq (eVarO 4) (eC (.str "n")))) (tN (tE (eA (fun ds => if ds.length = 1 then f__law_name ds else none) (aCons (eVar 5) aNil))))) (sRet (eC (.bool false))) sNext)
    (sSeq (sIf (tA (tE (e2 gEq (eVarO 4) (eC (.str "p")))) (tO (tN (tE (eA (fun ds => if ds.length = 1 then f__law_name ds else none) (aCons (eVar 5) aNil)))) (tE (e2 (gInL true) (eVarO 5) (eVarO 1))))) (sRet (eC (.bool false))) sNext)
    (sSeq (sIf (tA (tE (e2 gEq (eVarO 4) (eC (.str "w")))) (tO (tN (tE (eA (fun ds => if ds.length = 1 then f__law_whole ds else none) (aCons (eVar 5) aNil)))) (tE (e2 (gB fun i j => decide (j < i)) (eA gAbs (aCons (eVarO 5) aNil)) (eC (.int 1000000000000000000)))))) (sRet (eC (.bool false))) sNext)
    (sIf (tA (tE (e2 gEq (eVarO 4) (eC (.str "a")))) (tO (tN (tE (eA (fun ds => if ds.length = 1 then f__law_whole ds else none) (aCons (eVar 5) aNil)))) (tO (tE (e2 (gB fun i j => decide (i < j)) (eVarO 5) (eC (.int 0)))) (tE (e2 (gB fun i j => decide (j < i)) (eVarO 5) (eVarO 2)))))) (sRet (eC (.bool false))) sNext)))))
    (sRet (eC (.bool true)))))))
def f__law_good_row : List PyData → Option PyData := fnD 6 F__law_good_row
theorem ok__law_good_row {f : Addr} {fd : FuncData} (F : Fun K "_law_good_row" "_law_good_row" s__law_good_row f fd) (T : Bt mg) (C_law_name : Cal P w K mg base 1 "_law_name" 1 ["_law_thing"] f__law_name) (C_law_whole : Cal P w K mg base 1 "_law_whole" 1 ["_law_thing"] f__law_whole) : FnOk P w K mg base CX0 2 f fd ["_law_row_here", "_law_known", "_law_size"] (spD K 3 f__law_good_row) := by
  exact fn_den (N := N__law_good_row) F sc__law_good_row (by decide) fun cdv A outer s H E hr => by
    have hu : (A.deeper (envOfC "_law_good_row" (defScope s__law_good_row) s.heap.objs.size f cdv)).units + 65 < cLine := by have := hr.un; omega
    have hv : (A.deeper (envOfC "_law_good_row" (defScope s__law_good_row) s.heap.objs.size f cdv)).units + 1 < cLine := by omega
    exact ek_out (K := K) ((PL.bC (zIf (EW.tt (wO (tNot_ (tVal (EP.o (fIsi "tuple" T.isinstance T.tuple (ha := (vO 0)))))) (wO (tcmp (kEq hu) (EP.o (fLen T.len (ha := (xC (vO 0) xN)))) (EP.o cI)) (wO1 (tNot_ (tVal (EP.o (fIsi "str" T.isinstance T.str (ha := (EP.o (ixx (vO 0) (EP.o cI)))))))))))) (PL.b1 (zRet cB)) PL.b0)
    (bDict2 3 sc__law_good_row.nd (kC cS (kC cS (kC cS (kC cS (kC cS (kC cS (kC cS kN))))))) (kC cS (kC cS (kC cS kN))) (vO 3)
    (PL.bC (zIf (EW.tt (wO (tDnin_ hv (EP.o (ixx (vO 0) (EP.o cI))) (vP 3)) (wO1 (tcmp (kNe hu) (EP.o (fLen T.len (ha := (xC (vO 0) xN)))) (EP.o (bAdd (EP.o cI) (EP.o (fLen T.len (ha := (xC (EP.o (dgx hv (vP 3) (EP.o (ixx (vO 0) (EP.o cI))))) xN)))))))))) (PL.b1 (zRet cB)) PL.b0)
    (PL.bC (zFor (S := [4, 5]) PassesOwn.never (iZs_ T.zip (yC (dgx hv (vP 3) (EP.o (ixx (vO 0) (EP.o cI)))) (yC (slT (vO 0) (qS (EP.o cI)) qN) yN))) (gT (gsC (gN 4 sc__law_good_row.nd) (gsC (gN 5 sc__law_good_row.nd) gs0))) (PL.bC (zIf (EW.tt (wA (tcmp (kEq hu) (vO 4) (EP.o cS)) (wA1 (tNot_ (tVal (EP.o (cal1 C_law_name hr (by decide) (yC (vP 5) yN)))))))) (PL.b1 (zRet cB)) PL.b0)
    (PL.bC (zIf (EW.tt (wA (tcmp (kEq hu) (vO 4) (EP.o cS)) (wA1 (EW.tt (wO (tNot_ (tVal (EP.o (cal1 C_law_name hr (by decide) (yC (vP 5) yN))))) (wO1 (tcmp (kNiL hu) (vO 5) (vO 1)))))))) (PL.b1 (zRet cB)) PL.b0)
    (PL.bC (zIf (EW.tt (wA (tcmp (kEq hu) (vO 4) (EP.o cS)) (wA1 (EW.tt (wO (tNot_ (tVal (EP.o (cal1 C_law_whole hr (by decide) (yC (vP 5) yN))))) (wO1 (tcmp kGt (EP.o (fAbs T.abs (ha := (xC (vO 5) xN)))) (EP.o cI)))))))) (PL.b1 (zRet cB)) PL.b0)
    (PL.b1 (zIf (EW.tt (wA (tcmp (kEq hu) (vO 4) (EP.o cS)) (wA1 (EW.tt (wO (tNot_ (tVal (EP.o (cal1 C_law_whole hr (by decide) (yC (vP 5) yN))))) (wO (tcmp kLt (vO 5) (EP.o cI)) (wO1 (tcmp kGt (vO 5) (vO 2))))))))) (PL.b1 (zRet cB)) PL.b0))))))
    (PL.b1 (zRet cB)))))))

/-! _law_bad_row: _law_plots_here 0, _law_rows 1, _law_known 2, _law_at_here 3, _law_row_here 4, _law_plot 5, _law_outer 6 -/
abbrev s__law_bad_row : Stmt := topS 30
abbrev N__law_bad_row : List Str := ["_law_plots_here", "_law_rows", "_law_known", "_law_at_here", "_law_row_here", "_law_plot", "_law_outer"]
theorem sc__law_bad_row : FnScope N__law_bad_row ["_law_plots_here", "_law_rows"] (defScope s__law_bad_row) := ⟨rfl, rfl, rfl, by decide +kernel, rfl, by decide +kernel, by decide +kernel⟩
def F__law_bad_row : PL.Env → Option Out := (sSeq (sIf (tO (tN (tE (e1 (gIsi "list") (eVarO 1)))) (tE (e2 (gB fun i j => decide (j < i)) (eA gLen (aCons (eVarO 1) aNil)) (eC (.int 60))))) (sRet (eTup (aCons (eC (.bool true)) (aCons (eC .none) aNil)))) sNext)
    (sSeq (sOwn (nLc (iLS (eVarO 0)) (tgT 2 (tgCons (tgN 5) (tgCons (tgN 6) tgNil))) (fun _ => some true) (eVar 5) [5, 6]) 2)
    (sFree 2 (sSeq (sFor (iEn (aCons (eVar 1) aNil)) (tgT 2 (tgCons (tgN 3) (tgCons (tgN 4) tgNil))) (sIf (tN (tE (eA (fun ds => if ds.length = 3 then f__law_good_row ds else none) (aCons (eVar 4) (aCons (eVar 2) (aCons (eA gLen (aCons (eVarO 1) aNil)) aNil)))))) (sRet (eTup (aCons (eC (.bool true)) (aCons (eVar 3) aNil)))) sNext))
    (sRet (eTup (aCons (eC (.bool false)) (aCons (eC .none) aNil))))))))
def f__law_bad_row : List PyData → Option PyData := fnD 7 F__law_bad_row
theorem ok__law_bad_row {f : Addr} {fd : FuncData} (F : Fun K "_law_bad_row" "_law_bad_row" s__law_bad_row f fd) (T : Bt mg) (C_law_good_row : Cal P w K mg base 2 "_law_good_row" 3 ["_law_row_here", "_law_known", "_law_size"] f__law_good_row) : FnOk P w K mg base CX0 3 f fd ["_law_plots_here", "_law_rows"] (spD K 2 f__law_bad_row) := by
  exact fn_den (N := N__law_bad_row) F sc__law_bad_row (by decide) fun cdv A outer s H E hr => by
    have hu : (A.deeper (envOfC "_law_bad_row" (defScope s__law_bad_row) s.heap.objs.size f cdv)).units + 65 < cLine := by have := hr.un; omega
    have hv : (A.deeper (envOfC "_law_bad_row" (defScope s__law_bad_row) s.heap.objs.size f cdv)).units + 1 < cLine := by omega
    exact ek_out (K := K) ((PL.bC (zIf (EW.tt (wO (tNot_ (tVal (EP.o (fIsi "list" T.isinstance T.list (ha := (vO 1)))))) (wO1 (tcmp kGt (EP.o (fLen T.len (ha := (xC (vO 1) xN)))) (EP.o cI))))) (PL.b1 (zRet (dTup (yC cB (yC cN yN))))) PL.b0)
    (PL.bC (zLc 2 [("_law_plot", 5), ("_law_outer", 6)] s sc__law_bad_row.nd (jL (vO 0)) (blkOk_by (own := [("_law_plot", 5), ("_law_outer", 6)]) (N := N__law_bad_row) (sc := defScope s__law_bad_row) (by decide +kernel)) (fun _ _ _ _ _ => (gT (gsC (gN 5 sc__law_bad_row.nd) (gsC (gN 6 sc__law_bad_row.nd) gs0)))) (fun _ _ _ _ _ => ts0) (fun _ _ _ _ _ => (vP 5)) (sw_true rfl rfl rfl (by decide +kernel)))
    (EK.free 2 (PL.bC (zFor (S := [3, 4]) PassesOwn.never (iEn_ T.enumerate (yC (vP 1) yN)) (gT (gsC (gN 3 sc__law_bad_row.nd) (gsC (gN 4 sc__law_bad_row.nd) gs0))) (PL.b1 (zIf (tNot_ (tVal (EP.o (cal1 C_law_good_row hr (by decide) (yC (vP 4) (yC (vP 2) (yC (fLen T.len (ha := (xC (vO 1) xN))) yN))))))) (PL.b1 (zRet (dTup (yC cB (yC (vP 3) yN))))) PL.b0)))
    (PL.b1 (zRet (dTup (yC cB (yC cN yN))))))))))

end
end K01
namespace K01
open PX PySem L2 PySem.Spec PyProof.Rows PL PR
section
variable {P : Program} {w : World} {K : PySem.W.Frag} {mg : Str → Option Value} {base : Heap}
/-! _law_sign: _law_cell 0, _law_signs 1 -/
abbrev s__law_sign : Stmt := topS 31
abbrev N__law_sign : List Str := ["_law_cell", "_law_signs"]
theorem sc__law_sign : FnScope N__law_sign ["_law_cell"] (defScope s__law_sign) := ⟨rfl, rfl, rfl, by decide +kernel, rfl, by decide +kernel, by decide +kernel⟩
def F__law_sign : PL.Env → Option Out := (sSeq (sAsg (eC (.str " !\"#$&'()*+,-./0123456789:;<=>?@ABCDEFGHIJKLMNOPQRSTUVWXYZ[\\]^_`{|}~\n\t")) (tgN 1))
    (sRet (e2 gIx (eVarO 1) (e2 (gIC cMod (· % ·)) (eVarO 0) (eA gLen (aCons (eVarO 1) aNil))))))
def f__law_sign : List PyData → Option PyData := fnD 2 F__law_sign
theorem ok__law_sign {f : Addr} {fd : FuncData} (F : Fun K "_law_sign" "_law_sign" s__law_sign f fd) (T : Bt mg) : FnOk P w K mg base CX0 1 f fd ["_law_cell"] (spD K 1 f__law_sign) := by
  exact fn_den (N := N__law_sign) F sc__law_sign (by decide) fun cdv A outer s H E hr => by
    have hu : (A.deeper (envOfC "_law_sign" (defScope s__law_sign) s.heap.objs.size f cdv)).units + 65 < cLine := by have := hr.un; omega
    have hv : (A.deeper (envOfC "_law_sign" (defScope s__law_sign) s.heap.objs.size f cdv)).units + 1 < cLine := by omega
    exact ek_out (K := K) ((PL.bC (zAsg cS (gN (S := [1]) 1 sc__law_sign.nd))
    (PL.b1 (zRet (ixx (vO 1) (EP.o (bMod (vO 0) (EP.o (fLen T.len (ha := (xC (vO 1) xN)))))))))))

/-! _law_pair: _law_cell 0, _law_plots_here 1, _law_at_here 2, _law_name_here 3, _law_first 4, _law_last 5, _law_things 6, _law_sign_here 7 -/
abbrev s__law_pair : Stmt := topS 32
abbrev N__law_pair : List Str := ["_law_cell", "_law_plots_here", "_law_at_here", "_law_name_here", "_law_first", "_law_last", "_law_things", "_law_sign_here"]
theorem sc__law_pair : FnScope N__law_pair ["_law_cell", "_law_plots_here", "_law_at_here"] (defScope s__law_pair) := ⟨rfl, rfl, rfl, by decide +kernel, rfl, by decide +kernel, by decide +kernel⟩
def F__law_pair : PL.Env → Option Out := (sSeq (sAsg (e2 gIx (e2 gIx (eVarO 1) (eVarO 2)) (eC (.int 0))) (tgN 3))
    (sSeq (sAsg (e2 gIx (e2 gIx (eVarO 1) (eC (.int 0))) (eC (.int 0))) (tgN 4))
    (sSeq (sAsg (e2 gIx (e2 gIx (eVarO 1) (e1 gNeg (eC (.int 1)))) (eC (.int 0))) (tgN 5))
    (sSeq (sOwn (nLst (aCons (eTup (aCons (eVar 3) (aCons (eC .none) aNil))) (aCons (eTup (aCons (eVar 3) (aCons (eVar 4) aNil))) (aCons (eTup (aCons (eVar 3) (aCons (eVar 5) aNil))) (aCons (eTup (aCons (eVar 3) (aCons (eVar 3) aNil))) (aCons (eTup (aCons (eVar 5) (aCons (eC .none) aNil))) (aCons (eTup (aCons (eC (.str "q")) (aCons (eC (.str "zz")) aNil))) (aCons (eTup (aCons (eC (.str "")) (aCons (eC .none) aNil))) aNil)))))))) 6)
    (sSeq (sExt 6 (eL (nLst (aCons (eTup (aCons (eC (.str "aB")) (aCons (eC .none) aNil))) (aCons (eTup (aCons (eC (.str "abcdefghi")) (aCons (eC .none) aNil))) (aCons (eTup (aCons (eC (.str "abcdefgh")) (aCons (eC .none) aNil))) (aCons (eL (nLst (aCons (eC (.str "q")) (aCons (eC .none) aNil)))) (aCons (eTup (aCons (eC (.str "q")) aNil)) (aCons (eTup (aCons (eC (.int 5)) (aCons (eC .none) aNil))) (aCons (eC .none) aNil))))))))))
    (sSeq (sAsg (eA (fun ds => if ds.length = 1 then f__law_sign ds else none) (aCons (e2 (gIC cDiv (· / ·)) (eVarO 0) (eC (.int 21))) aNil)) (tgN 7))
    (sSeq (sExt 6 (eL (nLst (aCons (eTup (aCons (eC (.str "q")) (aCons (eC (.int 0)) aNil))) (aCons (eTup (aCons (eC (.str "q")) (aCons (eC (.str "")) aNil))) (aCons (eTup (aCons (eC (.str "a1")) (aCons (eC .none) aNil))) (aCons (eTup (aCons (e2 gAdd (e2 gAdd (eC (.str "a")) (eVarO 7)) (eC (.str "b"))) (aCons (eC .none) aNil))) (aCons (eTup (aCons (eVar 7) (aCons (eC .none) aNil))) (aCons (eTup (aCons (eL (nLst (aCons (eC (.str "q")) aNil))) (aCons (eC .none) aNil))) aNil)))))))))
    (sSeq (sApp 6 (eTup (aCons (eC (.str "q")) (aCons (eL (nLst (aCons (eVar 3) aNil))) aNil))))
    (sRet (e2 gIx (eVarO 6) (e2 (gIC cMod (· % ·)) (eVarO 0) (eC (.int 21)))))))))))))
def f__law_pair : List PyData → Option PyData := fnD 8 F__law_pair
theorem ok__law_pair {f : Addr} {fd : FuncData} (F : Fun K "_law_pair" "_law_pair" s__law_pair f fd) (T : Bt mg) (C_law_sign : Cal P w K mg base 1 "_law_sign" 1 ["_law_cell"] f__law_sign) : FnOk P w K mg base CX0 2 f fd ["_law_cell", "_law_plots_here", "_law_at_here"] (spD K 3 f__law_pair) := by
  exact fn_den (N := N__law_pair) F sc__law_pair (by decide) fun cdv A outer s H E hr => by
    have hu : (A.deeper (envOfC "_law_pair" (defScope s__law_pair) s.heap.objs.size f cdv)).units + 65 < cLine := by have := hr.un; omega
    have hv : (A.deeper (envOfC "_law_pair" (defScope s__law_pair) s.heap.objs.size f cdv)).units + 1 < cLine := by omega
    exact ek_out (K := K) ((PL.bC (zAsg (ixx (EP.o (ixx (vO 1) (vO 2))) (EP.o cI)) (gN (S := [3]) 3 sc__law_pair.nd))
    (PL.bC (zAsg (ixx (EP.o (ixx (vO 1) (EP.o cI))) (EP.o cI)) (gN (S := [4]) 4 sc__law_pair.nd))
    (PL.bC (zAsg (ixx (EP.o (ixx (vO 1) (EP.o (uNeg (EP.o cI))))) (EP.o cI)) (gN (S := [5]) 5 sc__law_pair.nd))
    (PL.bC (zOwn 6 sc__law_pair.nd (dLst (yC (dTup (yC (vP 3) (yC cN yN))) (yC (dTup (yC (vP 3) (yC (vP 4) yN))) (yC (dTup (yC (vP 3) (yC (vP 5) yN))) (yC (dTup (yC (vP 3) (yC (vP 3) yN))) (yC (dTup (yC (vP 5) (yC cN yN))) (yC (dTup (yC cS (yC cS yN))) (yC (dTup (yC cS (yC cN yN))) yN)))))))))
    (PL.bC (zExt 6 (vO 6) (EN.p (dLst (yC (dTup (yC cS (yC cN yN))) (yC (dTup (yC cS (yC cN yN))) (yC (dTup (yC cS (yC cN yN))) (yC (EN.p (dLst (yC cS (yC cN yN)))) (yC (dTup (yC cS yN)) (yC (dTup (yC cI (yC cN yN))) (yC cN yN))))))))))
    (PL.bC (zAsg (cal1 C_law_sign hr (by decide) (yC (bDiv (vO 0) (EP.o cI)) yN)) (gN (S := [7]) 7 sc__law_pair.nd))
    (PL.bC (zExt 6 (vO 6) (EN.p (dLst (yC (dTup (yC cS (yC cI yN))) (yC (dTup (yC cS (yC cS yN))) (yC (dTup (yC cS (yC cN yN))) (yC (dTup (yC (bAdd (EP.o (bAdd (EP.o cS) (vO 7))) (EP.o cS)) (yC cN yN))) (yC (dTup (yC (vP 7) (yC cN yN))) (yC (dTup (yC (EN.p (dLst (yC cS yN))) (yC cN yN))) yN)))))))))
    (PL.bC (zApp 6 (vO 6) (dTup (yC cS (yC (EN.p (dLst (yC (vP 3) yN))) yN))))
    (PL.b1 (zRet (ixx (vO 6) (EP.o (bMod (vO 0) (EP.o cI)))))))))))))))

/-! _law_odd_row: _law_cell 0, _law_plots_here 1, _law_names_here 2, _law_size 3, _law_name_here 4, _law_plot 5, _law_great 6, _law_rows 7 -/
abbrev s__law_odd_row : Stmt := topS 33
abbrev N__law_odd_row : List Str := ["_law_cell", "_law_plots_here", "_law_names_here", "_law_size", "_law_name_here", "_law_plot", "_law_great", "_law_rows"]
theorem sc__law_odd_row : FnScope N__law_odd_row ["_law_cell", "_law_plots_here", "_law_names_here", "_law_size"] (defScope s__law_odd_row) := ⟨rfl, rfl, rfl, by decide +kernel, rfl, by decide +kernel, by decide +kernel⟩
def F__law_odd_row : PL.Env → Option Out := (sSeq (sAsg (e2 gIx (eVarO 2) (e2 (gIC cMod (· % ·)) (e2 (gIC cDiv (· / ·)) (eVarO 0) (eC (.int 34))) (eA gLen (aCons (eVarO 2) aNil)))) (tgN 4))
    (sSeq (sAsg (e2 gIx (e2 gIx (eVarO 1) (e2 (gIC cMod (· % ·)) (e2 (gIC cDiv (· / ·)) (eVarO 0) (eC (.int 34))) (eA gLen (aCons (eVarO 1) aNil)))) (eC (.int 0))) (tgN 5))
    (sSeq (sAsg (eC (.int 1000000000000000000)) (tgN 6))
    (sSeq (sOwn (nLst (aCons (eTup (aCons (eC (.str "hop")) (aCons (eVar 4) aNil))) (aCons (eTup (aCons (eC (.str "open")) aNil)) (aCons (eTup (aCons (eC (.str "open")) (aCons (eC (.str "qq")) aNil))) (aCons (eL (nLst (aCons (eC (.str "tell")) (aCons (eVar 4) aNil)))) (aCons (eTup (aCons (eC (.str "lay")) (aCons (eVar 4) (aCons (eVar 5) (aCons (eC (.bool true)) aNil))))) aNil)))))) 7)
    (sSeq (sExt 7 (eL (nLst (aCons (eTup (aCons (eC (.str "lay")) (aCons (eVar 4) (aCons (eVar 5) (aCons (e2 gAdd (eVarO 6) (eC (.int 1))) aNil))))) (aCons (eTup (aCons (eC (.str "lay")) (aCons (eVar 4) (aCons (eVar 5) (aCons (eC (.str "3")) aNil))))) (aCons (eTup (aCons (eC (.str "fork")) (aCons (e2 gAdd (eVarO 3) (eC (.int 1))) aNil))) aNil))))))
    (sSeq (sExt 7 (eL (nLst (aCons (eTup (aCons (eC (.str "go")) (aCons (e2 (gI (· - ·)) (eC (.int 0)) (eC (.int 1))) aNil))) (aCons (eTup (aCons (eC (.str "fork")) (aCons (eC (.bool true)) aNil))) (aCons (eTup (aCons (eC (.str "end")) (aCons (eC (.int 1)) aNil))) (aCons (eTup aNil) (aCons (eC (.str "end")) aNil))))))))
    (sSeq (sExt 7 (eL (nLst (aCons (eTup (aCons (eC (.str "tell")) (aCons (eC (.str "a1")) aNil))) (aCons (eTup (aCons (eC (.str "tell")) (aCons (eC (.str "")) aNil))) (aCons (eTup (aCons (eC (.str "tell")) (aCons (eC (.str "abcdefghi")) aNil))) (aCons (eTup (aCons (eC (.str "same")) (aCons (eVar 4) aNil))) (aCons (eTup (aCons (eC (.str "copy")) (aCons (eVar 4) (aCons (eVar 4) (aCons (eC (.str "qq")) aNil))))) aNil))))))))
    (sSeq (sExt 7 (eL (nLst (aCons (eTup (aCons (eC (.str "open")) (aCons (eC .none) aNil))) (aCons (eTup (aCons (eC .none) (aCons (eVar 5) aNil))) (aCons (eTup (aCons (eC (.str "lay")) (aCons (eVar 4) (aCons (eVar 5) (aCons (e2 (gI (· - ·)) (e2 (gI (· - ·)) (eC (.int 0)) (eVarO 6)) (eC (.int 1))) aNil))))) (aCons (eTup (aCons (eC (.str "lay")) (aCons (eVar 4) (aCons (eVar 5) (aCons (e2 (gI (· - ·)) (eC (.int 0)) (eVarO 6)) aNil))))) aNil)))))))
    (sSeq (sExt 7 (eL (nLst (aCons (eTup (aCons (eC (.str "go")) (aCons (eVar 3) aNil))) (aCons (eTup (aCons (eC (.str "give")) (aCons (eL (nLst (aCons (eVar 5) aNil))) aNil))) (aCons (eTup (aCons (eC (.str "tell")) (aCons (eC (.int 5)) aNil))) (aCons (eTup (aCons (eC (.str "tell")) (aCons (eC .none) aNil))) (aCons (eTup (aCons (eC (.str "tell")) (aCons (eL (nLst (aCons (eVar 4) aNil))) aNil))) (aCons (eTup (aCons (eC (.str "fork")) (aCons (eC (.str "1")) aNil))) aNil)))))))))
    (sSeq (sExt 7 (eL (nLst (aCons (eTup (aCons (eC (.str "go")) (aCons (eC .none) aNil))) (aCons (eTup (aCons (eC (.str "tell")) (aCons (e2 gAdd (e2 gAdd (eC (.str "a")) (eA (fun ds => if ds.length = 1 then f__law_sign ds else none) (aCons (e2 (gIC cDiv (· / ·)) (eVarO 0) (eC (.int 34))) aNil))) (eC (.str "b"))) aNil))) (aCons (eTup (aCons (eL (nLst (aCons (eC (.str "tell")) aNil))) (aCons (eVar 4) aNil))) (aCons (eTup (aCons (eC (.dict [])) (aCons (eVar 5) aNil))) aNil)))))))
    (sSeq (sExt 7 (eL (nLst (aCons (eTup (aCons (eC (.str "lay")) (aCons (eVar 4) (aCons (eVar 5) (aCons (eC .none) aNil))))) (aCons (eTup (aCons (eC (.str "lay")) (aCons (eC (.int 5)) (aCons (eVar 5) (aCons (eC (.int 1)) aNil))))) aNil)))))
    (sRet (e2 gIx (eVarO 7) (e2 (gIC cMod (· % ·)) (eVarO 0) (eC (.int 34))))))))))))))))
def f__law_odd_row : List PyData → Option PyData := fnD 8 F__law_odd_row
theorem ok__law_odd_row {f : Addr} {fd : FuncData} (F : Fun K "_law_odd_row" "_law_odd_row" s__law_odd_row f fd) (T : Bt mg) (C_law_sign : Cal P w K mg base 1 "_law_sign" 1 ["_law_cell"] f__law_sign) : FnOk P w K mg base CX0 2 f fd ["_law_cell", "_law_plots_here", "_law_names_here", "_law_size"] (spD K 4 f__law_odd_row) := by
  exact fn_den (N := N__law_odd_row) F sc__law_odd_row (by decide) fun cdv A outer s H E hr => by
    have hu : (A.deeper (envOfC "_law_odd_row" (defScope s__law_odd_row) s.heap.objs.size f cdv)).units + 65 < cLine := by have := hr.un; omega
    have hv : (A.deeper (envOfC "_law_odd_row" (defScope s__law_odd_row) s.heap.objs.size f cdv)).units + 1 < cLine := by omega
    exact ek_out (K := K) ((PL.bC (zAsg (ixx (vO 2) (EP.o (bMod (EP.o (bDiv (vO 0) (EP.o cI))) (EP.o (fLen T.len (ha := (xC (vO 2) xN))))))) (gN (S := [4]) 4 sc__law_odd_row.nd))
    (PL.bC (zAsg (ixx (EP.o (ixx (vO 1) (EP.o (bMod (EP.o (bDiv (vO 0) (EP.o cI))) (EP.o (fLen T.len (ha := (xC (vO 1) xN)))))))) (EP.o cI)) (gN (S := [5]) 5 sc__law_odd_row.nd))
    (PL.bC (zAsg cI (gN (S := [6]) 6 sc__law_odd_row.nd))
    (PL.bC (zOwn 7 sc__law_odd_row.nd (dLst (yC (dTup (yC cS (yC (vP 4) yN))) (yC (dTup (yC cS yN)) (yC (dTup (yC cS (yC cS yN))) (yC (EN.p (dLst (yC cS (yC (vP 4) yN)))) (yC (dTup (yC cS (yC (vP 4) (yC (vP 5) (yC cB yN))))) yN)))))))
    (PL.bC (zExt 7 (vO 7) (EN.p (dLst (yC (dTup (yC cS (yC (vP 4) (yC (vP 5) (yC (bAdd (vO 6) (EP.o cI)) yN))))) (yC (dTup (yC cS (yC (vP 4) (yC (vP 5) (yC cS yN))))) (yC (dTup (yC cS (yC (bAdd (vO 3) (EP.o cI)) yN))) yN))))))
    (PL.bC (zExt 7 (vO 7) (EN.p (dLst (yC (dTup (yC cS (yC (bSub (EP.o cI) (EP.o cI)) yN))) (yC (dTup (yC cS (yC cB yN))) (yC (dTup (yC cS (yC cI yN))) (yC (dTup yN) (yC cS yN))))))))
    (PL.bC (zExt 7 (vO 7) (EN.p (dLst (yC (dTup (yC cS (yC cS yN))) (yC (dTup (yC cS (yC cS yN))) (yC (dTup (yC cS (yC cS yN))) (yC (dTup (yC cS (yC (vP 4) yN))) (yC (dTup (yC cS (yC (vP 4) (yC (vP 4) (yC cS yN))))) yN))))))))
    (PL.bC (zExt 7 (vO 7) (EN.p (dLst (yC (dTup (yC cS (yC cN yN))) (yC (dTup (yC cN (yC (vP 5) yN))) (yC (dTup (yC cS (yC (vP 4) (yC (vP 5) (yC (bSub (EP.o (bSub (EP.o cI) (vO 6))) (EP.o cI)) yN))))) (yC (dTup (yC cS (yC (vP 4) (yC (vP 5) (yC (bSub (EP.o cI) (vO 6)) yN))))) yN)))))))
    (PL.bC (zExt 7 (vO 7) (EN.p (dLst (yC (dTup (yC cS (yC (vP 3) yN))) (yC (dTup (yC cS (yC (EN.p (dLst (yC (vP 5) yN))) yN))) (yC (dTup (yC cS (yC cI yN))) (yC (dTup (yC cS (yC cN yN))) (yC (dTup (yC cS (yC (EN.p (dLst (yC (vP 4) yN))) yN))) (yC (dTup (yC cS (yC cS yN))) yN)))))))))
    (PL.bC (zExt 7 (vO 7) (EN.p (dLst (yC (dTup (yC cS (yC cN yN))) (yC (dTup (yC cS (yC (bAdd (EP.o (bAdd (EP.o cS) (EP.o (cal1 C_law_sign hr (by decide) (yC (bDiv (vO 0) (EP.o cI)) yN))))) (EP.o cS)) yN))) (yC (dTup (yC (EN.p (dLst (yC cS yN))) (yC (vP 4) yN))) (yC (dTup (yC cE0 (yC (vP 5) yN))) yN)))))))
    (PL.bC (zExt 7 (vO 7) (EN.p (dLst (yC (dTup (yC cS (yC (vP 4) (yC (vP 5) (yC cN yN))))) (yC (dTup (yC cS (yC cI (yC (vP 5) (yC cI yN))))) yN)))))
    (PL.b1 (zRet (ixx (vO 7) (EP.o (bMod (vO 0) (EP.o cI))))))))))))))))))

/-! _law_changed: _law_script 0, _law_plots_here 1, _law_rows 2, _law_names_here 3, _law_kind 4, _law_cell 5, _law_spot 6, _law_at_here 7, _law_letter 8 -/
abbrev s__law_changed : Stmt := topS 34
abbrev N__law_changed : List Str := ["_law_script", "_law_plots_here", "_law_rows", "_law_names_here", "_law_kind", "_law_cell", "_law_spot", "_law_at_here", "_law_letter"]
theorem sc__law_changed : FnScope N__law_changed ["_law_script", "_law_plots_here", "_law_rows", "_law_names_here"] (defScope s__law_changed) := ⟨rfl, rfl, rfl, by decide +kernel, rfl, by decide +kernel, by decide +kernel⟩
def F__law_changed : PL.Env → Option Out := (sSeq (sAsg (e2 (gIC cMod (· % ·)) (eA (fun ds => if ds.length = 2 then f__law_at ds else none) (aCons (eVar 0) (aCons (eC (.int 3)) aNil))) (eC (.int 9))) (tgN 4))
    (sSeq (sAsg (eA (fun ds => if ds.length = 2 then f__law_at ds else none) (aCons (eVar 0) (aCons (eC (.int 4)) aNil))) (tgN 5))
    (sSeq (sAsg (eA (fun ds => if ds.length = 2 then f__law_at ds else none) (aCons (eVar 0) (aCons (eC (.int 5)) aNil))) (tgN 6))
    (sSeq (sIf (tE (e2 gEq (eVarO 4) (eC (.int 0)))) (sAsg (eA gTup (aCons (eVar 1) aNil)) (tgN 1)) (sIf (tE (e2 gEq (eVarO 4) (eC (.int 1)))) (sSeq (sOwn (nLc (iS (eSlS (eC (.str "abcdefghijklm")) oNone (oSome (e2 gAdd (eC (.int 12)) (e2 (gIC cMod (· % ·)) (eVarO 5) (eC (.int 2))))))) (tgN 8) (fun _ => some true) (eTup (aCons (eVar 8) (aCons (eC .none) aNil))) [8]) 1)
    (sFree 1 sNext)) (sIf (tE (e2 (gB fun i j => decide (i < j)) (eVarO 4) (eC (.int 4)))) (sSeq (sAsg (e2 (gIC cMod (· % ·)) (eVarO 6) (eA gLen (aCons (eVarO 1) aNil))) (tgN 7))
    (sSeq (sIf (tA (tE (e2 gEq (eVarO 4) (eC (.int 2)))) (tE (e2 gEq (e2 (gIC cMod (· % ·)) (e2 (gIC cDiv (· / ·)) (eVarO 5) (eC (.int 17))) (eC (.int 2))) (eC (.int 1))))) (sAsg (eL (nCat (eVarO 1) (eL (nLst (aCons (eTup (aCons (e2 gIx (e2 gIx (eVarO 1) (eVarO 7)) (eC (.int 0))) (aCons (eC .none) aNil))) aNil))))) (tgN 1)) (sAsg (eL (nCat (eL (nCat (eL (nSl (eVarO 1) oNone (oSome (eVarO 7)))) (eL (nLst (aCons (eA (fun ds => if ds.length = 3 then f__law_pair ds else none) (aCons (eVar 5) (aCons (eVar 1) (aCons (eVar 7) aNil)))) aNil))))) (eL (nSl (eVarO 1) (oSome (e2 gAdd (eVarO 7) (eC (.int 1)))) oNone)))) (tgN 1)))
    (sIf (tE (e2 gEq (eVarO 4) (eC (.int 3)))) (sAsg (eL (nCat (eL (nSl (eVarO 1) oNone (oSome (e1 gNeg (eC (.int 1)))))) (eL (nLst (aCons (eTup (aCons (eC (.str "q")) (aCons (eC (.str "zz")) aNil))) aNil))))) (tgN 1)) sNext))) (sIf (tE (e2 gEq (eVarO 4) (eC (.int 4)))) (sAsg (e2 gIx (eL (nLst (aCons (eA gTup (aCons (eVar 2) aNil)) (aCons (eL (nRep (eL (nSl (eVarO 2) oNone (oSome (eC (.int 1))))) (e2 gAdd (eC (.int 60)) (e2 (gIC cMod (· % ·)) (e2 (gIC cDiv (· / ·)) (eVarO 5) (eC (.int 2))) (eC (.int 2)))))) aNil)))) (e2 (gIC cMod (· % ·)) (eVarO 5) (eC (.int 2)))) (tgN 2)) (sIf (tE (e2 (gB fun i j => decide (i < j)) (eVarO 4) (eC (.int 8)))) (sSeq (sAsg (e2 (gIC cMod (· % ·)) (eVarO 6) (eA gMax (aCons (eC (.int 1)) (aCons (eA gLen (aCons (eVarO 2) aNil)) aNil)))) (tgN 7))
    (sSeq (sOwn (nCat (eL (nCat (eL (nSl (eVarO 2) oNone (oSome (eVarO 7)))) (eL (nLst (aCons (eA (fun ds => if ds.length = 4 then f__law_odd_row ds else none) (aCons (eVar 5) (aCons (eVar 1) (aCons (eVar 3) (aCons (eA gLen (aCons (eVarO 2) aNil)) aNil))))) aNil))))) (eL (nSl (eVarO 2) (oSome (e2 gAdd (eVarO 7) (eC (.int 1)))) oNone))) 2)
    (sSeq (sIf (tA (tE (e2 gEq (eVarO 4) (eC (.int 7)))) (tE (e2 (gB fun i j => decide (i < j)) (eA gLen (aCons (eVarO 2) aNil)) (eC (.int 60))))) (sIns 2 (e2 (gIC cMod (· % ·)) (e2 (gIC cDiv (· / ·)) (eVarO 5) (eC (.int 24))) (e2 gAdd (eA gLen (aCons (eVarO 2) aNil)) (eC (.int 1)))) (eTup (aCons (eC (.str "hop")) aNil))) sNext)
    (sFree 2 sNext)))) sNext)))))
    (sRet (eTup (aCons (eVar 1) (aCons (eVar 2) aNil))))))))
def f__law_changed : List PyData → Option PyData := fnD 9 F__law_changed
theorem ok__law_changed {f : Addr} {fd : FuncData} (F : Fun K "_law_changed" "_law_changed" s__law_changed f fd) (T : Bt mg) (C_law_at : Cal P w K mg base 1 "_law_at" 2 ["_law_script", "_law_k"] f__law_at) (C_law_pair : Cal P w K mg base 2 "_law_pair" 3 ["_law_cell", "_law_plots_here", "_law_at_here"] f__law_pair) (C_law_odd_row : Cal P w K mg base 2 "_law_odd_row" 4 ["_law_cell", "_law_plots_here", "_law_names_here", "_law_size"] f__law_odd_row) : FnOk P w K mg base CX0 3 f fd ["_law_script", "_law_plots_here", "_law_rows", "_law_names_here"] (spD K 4 f__law_changed) := by
  exact fn_den (N := N__law_changed) F sc__law_changed (by decide) fun cdv A outer s H E hr => by
    have hu : (A.deeper (envOfC "_law_changed" (defScope s__law_changed) s.heap.objs.size f cdv)).units + 65 < cLine := by have := hr.un; omega
    have hv : (A.deeper (envOfC "_law_changed" (defScope s__law_changed) s.heap.objs.size f cdv)).units + 1 < cLine := by omega
    exact ek_out (K := K) ((PL.bC (zAsg (bMod (EP.o (cal1 C_law_at hr (by decide) (yC (vP 0) (yC cI yN)))) (EP.o cI)) (gN (S := [4]) 4 sc__law_changed.nd))
    (PL.bC (zAsg (cal1 C_law_at hr (by decide) (yC (vP 0) (yC cI yN))) (gN (S := [5]) 5 sc__law_changed.nd))
    (PL.bC (zAsg (cal1 C_law_at hr (by decide) (yC (vP 0) (yC cI yN))) (gN (S := [6]) 6 sc__law_changed.nd))
    (PL.bC (zIf (tcmp (kEq hu) (vO 4) (EP.o cI)) (PL.b1 (zAsg (fTup T.tuple (ha := (yC (vP 1) yN))) (gN (S := [1]) 1 sc__law_changed.nd))) (PL.b1 (zIf (tcmp (kEq hu) (vO 4) (EP.o cI)) (PL.bC (zLc 1 [("_law_letter", 8)] s sc__law_changed.nd (EI.j (iSt (EP.o (slS (EP.o cS) qN (qS (EP.o (bAdd (EP.o cI) (EP.o (bMod (vO 5) (EP.o cI)))))))))) (blkOk_by (own := [("_law_letter", 8)]) (N := N__law_changed) (sc := defScope s__law_changed) (by decide +kernel)) (fun _ _ _ _ _ => (gN 8 sc__law_changed.nd)) (fun _ _ _ _ _ => ts0) (fun _ _ _ _ _ => (dTup (yC (vP 8) (yC cN yN)))) (sw_true rfl rfl rfl (by decide +kernel)))
    (EK.free 1 PL.b0)) (PL.b1 (zIf (tcmp kLt (vO 4) (EP.o cI)) (PL.bC (zAsg (bMod (vO 6) (EP.o (fLen T.len (ha := (xC (vO 1) xN))))) (gN (S := [7]) 7 sc__law_changed.nd))
    (PL.bC (zIf (EW.tt (wA (tcmp (kEq hu) (vO 4) (EP.o cI)) (wA1 (tcmp (kEq hu) (EP.o (bMod (EP.o (bDiv (vO 5) (EP.o cI))) (EP.o cI))) (EP.o cI))))) (PL.b1 (zAsg (EN.p (bCat (vO 1) (EN.o (dLst (yC (dTup (yC (ixx (EP.o (ixx (vO 1) (vO 7))) (EP.o cI)) (yC cN yN))) yN))))) (gN (S := [1]) 1 sc__law_changed.nd))) (PL.b1 (zAsg (EN.p (bCat (EN.o (bCat (EN.o (slL (vO 1) qN (qS (vO 7)))) (EN.o (dLst (yC (cal1 C_law_pair hr (by decide) (yC (vP 5) (yC (vP 1) (yC (vP 7) yN)))) yN))))) (EN.o (slL (vO 1) (qS (EP.o (bAdd (vO 7) (EP.o cI)))) qN)))) (gN (S := [1]) 1 sc__law_changed.nd))))
    (PL.b1 (zIf (tcmp (kEq hu) (vO 4) (EP.o cI)) (PL.b1 (zAsg (EN.p (bCat (EN.o (slL (vO 1) qN (qS (EP.o (uNeg (EP.o cI)))))) (EN.o (dLst (yC (dTup (yC cS (yC cS yN))) yN))))) (gN (S := [1]) 1 sc__law_changed.nd))) PL.b0)))) (PL.b1 (zIf (tcmp (kEq hu) (vO 4) (EP.o cI)) (PL.b1 (zAsg (ixx (EN.o (dLst (yC (fTup T.tuple (ha := (yC (vP 2) yN))) (yC (EN.p (bRep (EN.o (slL (vO 2) qN (qS (EP.o cI)))) (EP.o (bAdd (EP.o cI) (EP.o (bMod (EP.o (bDiv (vO 5) (EP.o cI))) (EP.o cI))))))) yN)))) (EP.o (bMod (vO 5) (EP.o cI)))) (gN (S := [2]) 2 sc__law_changed.nd))) (PL.b1 (zIf (tcmp kLt (vO 4) (EP.o cI)) (PL.bC (zAsg (bMod (vO 6) (EP.o (fMax T.max (ha := (xC (EP.o cI) (xC (EP.o (fLen T.len (ha := (xC (vO 2) xN)))) xN)))))) (gN (S := [7]) 7 sc__law_changed.nd))
    (PL.bC (zOwn 2 sc__law_changed.nd (bCat (EN.o (bCat (EN.o (slL (vO 2) qN (qS (vO 7)))) (EN.o (dLst (yC (cal1 C_law_odd_row hr (by decide) (yC (vP 5) (yC (vP 1) (yC (vP 3) (yC (fLen T.len (ha := (xC (vO 2) xN))) yN))))) yN))))) (EN.o (slL (vO 2) (qS (EP.o (bAdd (vO 7) (EP.o cI)))) qN))))
    (PL.bC (zIf (EW.tt (wA (tcmp (kEq hu) (vO 4) (EP.o cI)) (wA1 (tcmp kLt (EP.o (fLen T.len (ha := (xC (vO 2) xN)))) (EP.o cI))))) (PL.b1 (zIns 2 (vO 2) (bMod (EP.o (bDiv (vO 5) (EP.o cI))) (EP.o (bAdd (EP.o (fLen T.len (ha := (xC (vO 2) xN)))) (EP.o cI)))) (dTup (yC cS yN)))) PL.b0)
    (EK.free 2 PL.b0)))) PL.b0)))))))))
    (PL.b1 (zRet (dTup (yC (vP 1) (yC (vP 2) yN))))))))))

end
end K01
namespace K01
open PX PySem L2 PySem.Spec PyProof.Rows PL PR
section
variable {P : Program} {w : World} {K : PySem.W.Frag} {mg : Str → Option Value} {base : Heap}
abbrev s__law_said : Stmt := topS 35
abbrev N__law_said : List Str := ["_law_kind", "_law_plots_here", "_law_rows", "error"]
theorem sc__law_said : FnScope N__law_said ["_law_kind", "_law_plots_here", "_law_rows"] (defScope s__law_said) := ⟨rfl, rfl, rfl, by decide +kernel, rfl, by decide +kernel, by decide +kernel⟩
noncomputable def F__law_said (CP CR : Addr) : PL.Env → Option Out := sSeq (sIf (tE (e2 gEq (eVarO 0) (eC (.int 0)))) (sTry (xRet (xTupF "fine" (fun env => ((aCons (eVar 1) (aCons (eVar 2) aNil)) env).bind fun ds => if ds.length = 2 then fX_need CP CR ds else none))) (hS CP CR 3)) sNext) (sTry (xRet (xTupF "fine" (fun env => ((aCons (eVar 1) (aCons (eVar 2) aNil)) env).bind fun ds => if ds.length = 2 then fX_need CP CR ds else none))) (hS CP CR 3))
noncomputable def f__law_said (CP CR : Addr) : List PyData → Option PyData := fnD 4 (F__law_said CP CR)
theorem ok__law_said {f : Addr} {fd : FuncData} {CE CP CR : Addr} (F : Fun K "_law_said" "_law_said" s__law_said f fd) (T : Bt mg) (R : ErrsS K mg CE CP CR) (zV : mg "ValueError" = none) (Xneed : CalX P w K mg base 6 "need" 2 ["plots", "rows"] (fX_need CP CR)) : FnOk P w K mg base CX0 7 f fd ["_law_kind", "_law_plots_here", "_law_rows"] (spD K 3 (f__law_said CP CR)) := by
  exact fn_den (N := N__law_said) F sc__law_said (by decide) fun cdv A outer s H E hr => by
    have hu : (A.deeper (envOfC "_law_said" (defScope s__law_said) s.heap.objs.size f cdv)).units + 65 < cLine := by have := hr.un; omega
    have hv : (A.deeper (envOfC "_law_said" (defScope s__law_said) s.heap.objs.size f cdv)).units + 1 < cLine := by omega
    exact ek_out (K := K) (PL.bC (zIf (tcmp (kEq hu) (vO 0) (EP.o cI))
      (PL.b1 (zTry rfl rfl rfl (fun pn xe hp => x1 (xRet_ (xTup_ (calX (m := 6) Xneed hr (by decide) (yC (vP 1) (yC (vP 2) yN))))))
        (.cons (x := "BadPlots") (n := "error") sc__law_said.nd rfl rfl ⟨rfl, by decide, .inl R.gP⟩ (fun a oe cls d pn hz hf => pss_one (ps_ret (pe_tup (pa_cons pe_str (pa_cons (pe_atR hz hf rfl rfl) pa_nil)))))
          (.cons (x := "BadRows") (n := "error") sc__law_said.nd rfl rfl ⟨rfl, by decide, .inl R.gR⟩ (fun a oe cls d pn hz hf => pss_one (ps_ret (pe_tup (pa_cons pe_str (pa_cons (pe_atR hz hf rfl rfl) pa_nil))))) .nil))
        (den_hS1 R))) PL.b0)
      (PL.b1 (zTry rfl rfl rfl (fun pn xe hp => x1 (xRet_ (xTup_ (calX (m := 6) Xneed hr (by decide) (yC (vP 1) (yC (vP 2) yN))))))
        (.cons (x := "PlotError") (n := "error") sc__law_said.nd rfl rfl ⟨rfl, by decide, .inl R.gE⟩ (fun a oe cls d pn hz hf =>
          pss_cons (ps_if (pt_not (pt_val (pe_isB (i := 3) (c := .ty "ValueError") (u := .type "ValueError") hz hf T.isinstance rfl rfl zV (by decide +kernel) rfl))) (pss_one (ps_ret (pe_tup (pa_cons pe_str (pa_cons (pe_atR hz hf rfl rfl) pa_nil))))) pss_nil)
            (pss_cons (ps_ret (pe_tup (pa_cons (pe_ix ix_seq (pe_lst (pa_cons pe_str (pa_cons pe_str pa_nil))) (pe_callTy call_int1 rfl T.int (by decide +kernel) (pa_cons (pe_isG (i := 3) (c := .ref CP) hz hf T.isinstance rfl rfl R.gP rfl) pa_nil)) (fun _ _ => rfl)) (pa_cons (pe_atR hz hf rfl rfl) pa_nil)))) pss_nil)) .nil)
        (den_hS2 R))))

/-! law: _law_script 0, _law_plots_here 1, _law_names_here 2, _law_cells 3, _law_rows 4, _law_due 5, _law_handed 6, _law_found 7, _law_is_bad 8, _law_at_here 9, _law_cell 10, _law_k 11 -/
abbrev s_law : Stmt := topS 36
abbrev N_law : List Str := ["_law_script", "_law_plots_here", "_law_names_here", "_law_cells", "_law_rows", "_law_due", "_law_handed", "_law_found", "_law_is_bad", "_law_at_here", "_law_cell", "_law_k"]
theorem sc_law : FnScope N_law ["_law_script"] (defScope s_law) := ⟨rfl, rfl, rfl, by decide +kernel, rfl, by decide +kernel, by decide +kernel⟩
noncomputable def F_law (fs : List PyData → Option PyData) : PL.Env → Option Out := (sSeq (sAsg (eL (fun env => ((aCons (eVar 0) aNil) env).bind fun ds => if ds.length = 1 then f__law_plots ds else none)) (tgN 1))
    (sSeq (sAsg (eL (fun env => ((aCons (eVar 0) (aCons (eVar 1) aNil)) env).bind fun ds => if ds.length = 2 then f__law_names ds else none)) (tgN 2))
    (sSeq (sAsg (eL (nSl (eVarO 0) (oSome (eC (.int 6))) (oSome (eC (.int 20))))) (tgN 3))
    (sSeq (sIf (tE (e2 gEq (e2 (gIC cMod (· % ·)) (e2 (gIC cDiv (· / ·)) (eA (fun ds => if ds.length = 2 then f__law_at ds else none) (aCons (eVar 0) (aCons (eC (.int 3)) aNil))) (eC (.int 18))) (eC (.int 8))) (eC (.int 1)))) (sAsg (eL (nLc (iR1 (aCons (e2 gAdd (eC (.int 40)) (e2 (gIC cMod (· % ·)) (e2 (gIC cDiv (· / ·)) (eA (fun ds => if ds.length = 2 then f__law_at ds else none) (aCons (eVar 0) (aCons (eC (.int 3)) aNil))) (eC (.int 144))) (eC (.int 21)))) aNil)) (tgN 11) (fun _ => some true) (e2 gAdd (e2 (gIC cDiv (· / ·)) (eA (fun ds => if ds.length = 2 then f__law_at ds else none) (aCons (eVar 0) (aCons (e2 gAdd (eC (.int 6)) (e2 (gIC cMod (· % ·)) (eVarO 11) (eC (.int 3)))) aNil))) (eC (.int 7))) (e2 (gIC cMul (· * ·)) (eC (.int 7919)) (eVarO 11))) [11])) (tgN 3)) sNext)
    (sSeq (sOwn (nLc (iLS (eVarO 3)) (tgN 10) (fun _ => some true) (eA (fun ds => if ds.length = 4 then f__law_row ds else none) (aCons (eVar 10) (aCons (eVar 1) (aCons (eVar 2) (aCons (eA gLen (aCons (eVarO 3) aNil)) aNil))))) [10]) 4)
    (sFree 4 (sSeq (sAsg (eA (fun ds => if ds.length = 4 then f__law_changed ds else none) (aCons (eVar 0) (aCons (eVar 1) (aCons (eVar 4) (aCons (eVar 2) aNil))))) (tgT 2 (tgCons (tgN 1) (tgCons (tgN 4) tgNil))))
    (sSeq (sAsg (eA (fun ds => if ds.length = 1 then f__law_bad_pair ds else none) (aCons (eVar 1) aNil)) (tgT 2 (tgCons (tgN 8) (tgCons (tgN 9) tgNil))))
    (sSeq (sAsg (eTup (aCons (eC (.str "plots")) (aCons (eVar 9) aNil))) (tgN 5))
    (sSeq (sIf (tN (tE (eVarO 8))) (sSeq (sAsg (eA (fun ds => if ds.length = 2 then f__law_bad_row ds else none) (aCons (eVar 1) (aCons (eVar 4) aNil))) (tgT 2 (tgCons (tgN 8) (tgCons (tgN 9) tgNil))))
    (sAsg (eTup (aCons (eC (.str "rows")) (aCons (eVar 9) aNil))) (tgN 5))) sNext)
    (sSeq (sIf (tN (tE (eVarO 8))) (sAsg (eTup (aCons (eC (.str "fine")) (aCons (eC (.bool true)) aNil))) (tgN 5)) sNext)
    (sSeq (sOwn (nLst (aCons (eL (nList (aCons (eVarO 1) aNil))) (aCons (eL (nList (aCons (eVarO 4) aNil))) aNil))) 6)
    (sSeq (sIf (tE (e1 (gIsi "tuple") (eVarO 1))) (sSet 6 0 (eA gTup (aCons (eVar 1) aNil))) sNext)
    (sSeq (sIf (tE (e1 (gIsi "tuple") (eVarO 4))) (sSet 6 1 (eA gTup (aCons (eVar 4) aNil))) sNext)
    (sSeq (sAsg (eA (fun ds => if ds.length = 3 then fs ds else none) (aCons (e2 (gIC cMod (· % ·)) (e2 (gIC cDiv (· / ·)) (eA (fun ds => if ds.length = 2 then f__law_at ds else none) (aCons (eVar 0) (aCons (eC (.int 3)) aNil))) (eC (.int 9))) (eC (.int 2))) (aCons (e2 gIx (eVarO 6) (eC (.int 0))) (aCons (e2 gIx (eVarO 6) (eC (.int 1))) aNil)))) (tgN 7))
    (sSeq (sIf (tO (tE (e2 gNeS (eVarO 6) (eL (nLst (aCons (eVar 1) (aCons (eVar 4) aNil)))))) (tE (e2 gNe (e2 gIx (eVarO 7) (eC (.int 0))) (e2 gIx (eVarO 5) (eC (.int 0)))))) (sRet (eC (.bool false))) sNext)
    (sSeq (sIf (tO (tE (e2 gIsT (e2 gIx (eVarO 5) (eC (.int 1))) (eC (.bool true)))) (tE (e1 (gIsN false) (e2 gIx (eVarO 5) (eC (.int 1)))))) (sRet (eAndB (e2 gEq (e1 (gIsi "bool") (e2 gIx (eVarO 7) (eC (.int 1)))) (e1 (gIsi "bool") (e2 gIx (eVarO 5) (eC (.int 1))))) (e2 gEq (e2 gIx (eVarO 7) (eC (.int 1))) (e2 gIx (eVarO 5) (eC (.int 1)))))) sNext)
    (sRet (eAndB (eA (fun ds => if ds.length = 1 then f__law_whole ds else none) (aCons (e2 gIx (eVarO 7) (eC (.int 1))) aNil)) (e2 gEq (e2 gIx (eVarO 7) (eC (.int 1))) (e2 gIx (eVarO 5) (eC (.int 1)))))))))))))))))))))))
noncomputable def f_law (fs : List PyData → Option PyData) : List PyData → Option PyData := fnD 12 (F_law fs)
theorem ok_law {fs : List PyData → Option PyData} {f : Addr} {fd : FuncData} (F : Fun K "law" "law" s_law f fd) (T : Bt mg) (C_law_plots : CalN P w K mg base 2 "_law_plots" 1 ["_law_script"] f__law_plots) (C_law_names : CalN P w K mg base 2 "_law_names" 2 ["_law_script", "_law_plots_here"] f__law_names) (C_law_at : Cal P w K mg base 1 "_law_at" 2 ["_law_script", "_law_k"] f__law_at) (C_law_row : Cal P w K mg base 1 "_law_row" 4 ["_law_cell", "_law_plots_here", "_law_names_here", "_law_size"] f__law_row) (C_law_changed : Cal P w K mg base 3 "_law_changed" 4 ["_law_script", "_law_plots_here", "_law_rows", "_law_names_here"] f__law_changed) (C_law_bad_pair : Cal P w K mg base 2 "_law_bad_pair" 1 ["_law_plots_here"] f__law_bad_pair) (C_law_bad_row : Cal P w K mg base 3 "_law_bad_row" 2 ["_law_plots_here", "_law_rows"] f__law_bad_row) (C_law_said : Cal P w K mg base 7 "_law_said" 3 ["_law_kind", "_law_plots_here", "_law_rows"] fs) (C_law_whole : Cal P w K mg base 1 "_law_whole" 1 ["_law_thing"] f__law_whole) : FnOk P w K mg base CX0 8 f fd ["_law_script"] (spD K 1 (f_law fs)) := by
  exact fn_den (N := N_law) F sc_law (by decide) fun cdv A outer s H E hr => by
    have hu : (A.deeper (envOfC "law" (defScope s_law) s.heap.objs.size f cdv)).units + 65 < cLine := by have := hr.un; omega
    have hv : (A.deeper (envOfC "law" (defScope s_law) s.heap.objs.size f cdv)).units + 1 < cLine := by omega
    exact ek_out (K := K) ((PL.bC (zAsg (EN.p (cal1N C_law_plots hr (by decide) (yC (vP 0) yN))) (gN (S := [1]) 1 sc_law.nd))
    (PL.bC (zAsg (EN.p (cal1N C_law_names hr (by decide) (yC (vP 0) (yC (vP 1) yN)))) (gN (S := [2]) 2 sc_law.nd))
    (PL.bC (zAsg (EN.p (slL (vO 0) (qS (EP.o cI)) (qS (EP.o cI)))) (gN (S := [3]) 3 sc_law.nd))
    (PL.bC (zIf (tcmp (kEq hu) (EP.o (bMod (EP.o (bDiv (EP.o (cal1 C_law_at hr (by decide) (yC (vP 0) (yC cI yN)))) (EP.o cI))) (EP.o cI))) (EP.o cI)) (PL.b1 (zAsg (EN.p (lcp [("_law_k", 11)] s sc_law.nd (EI.j (iRa T.range (xC (EP.o (bAdd (EP.o cI) (EP.o (bMod (EP.o (bDiv (EP.o (cal1 C_law_at hr (by decide) (yC (vP 0) (yC cI yN)))) (EP.o cI))) (EP.o cI))))) xN))) (blkOk_by (own := [("_law_k", 11)]) (N := N_law) (sc := defScope s_law) (by decide +kernel)) (fun _ _ _ _ _ => (gN 11 sc_law.nd)) (fun _ _ _ _ _ => ts0) (fun _ _ _ _ _ => (bAdd (EP.o (bDiv (EP.o (cal1 C_law_at hr (by decide) (yC (vP 0) (yC (bAdd (EP.o cI) (EP.o (bMod (vO 11) (EP.o cI)))) yN)))) (EP.o cI))) (EP.o (bMul (EP.o cI) (vO 11))))))) (gN (S := [3]) 3 sc_law.nd))) PL.b0)
    (PL.bC (zLc 4 [("_law_cell", 10)] s sc_law.nd (jL (vO 3)) (blkOk_by (own := [("_law_cell", 10)]) (N := N_law) (sc := defScope s_law) (by decide +kernel)) (fun _ _ _ _ _ => (gN 10 sc_law.nd)) (fun _ _ _ _ _ => ts0) (fun _ _ _ _ _ => (cal1 C_law_row hr (by decide) (yC (vP 10) (yC (vP 1) (yC (vP 2) (yC (fLen T.len (ha := (xC (vO 3) xN))) yN)))))) (sw_true rfl rfl rfl (by decide +kernel)))
    (EK.free 4 (PL.bC (zAsg (S := [1, 4]) (cal1 C_law_changed hr (by decide) (yC (vP 0) (yC (vP 1) (yC (vP 4) (yC (vP 2) yN))))) (gT (gsC (gN 1 sc_law.nd) (gsC (gN 4 sc_law.nd) gs0))))
    (PL.bC (zAsg (S := [8, 9]) (cal1 C_law_bad_pair hr (by decide) (yC (vP 1) yN)) (gT (gsC (gN 8 sc_law.nd) (gsC (gN 9 sc_law.nd) gs0))))
    (PL.bC (zAsg (dTup (yC cS (yC (vP 9) yN))) (gN (S := [5]) 5 sc_law.nd))
    (PL.bC (zIf (tNot_ (tVal (vO 8))) (PL.bC (zAsg (S := [8, 9]) (cal1 C_law_bad_row hr (by decide) (yC (vP 1) (yC (vP 4) yN))) (gT (gsC (gN 8 sc_law.nd) (gsC (gN 9 sc_law.nd) gs0))))
    (PL.b1 (zAsg (dTup (yC cS (yC (vP 9) yN))) (gN (S := [5]) 5 sc_law.nd)))) PL.b0)
    (PL.bC (zIf (tNot_ (tVal (vO 8))) (PL.b1 (zAsg (dTup (yC cS (yC cB yN))) (gN (S := [5]) 5 sc_law.nd))) PL.b0)
    (PL.bC (zOwn 6 sc_law.nd (dLst (yC (EN.p (fList T.list (ha := (xC (vO 1) xN)))) (yC (EN.p (fList T.list (ha := (xC (vO 4) xN)))) yN))))
    (PL.bC (zIf (tVal (EP.o (fIsi "tuple" T.isinstance T.tuple (ha := (vO 1))))) (PL.b1 (zSet 6 0 (pv 6) (fTup T.tuple (ha := (yC (vP 1) yN))))) PL.b0)
    (PL.bC (zIf (tVal (EP.o (fIsi "tuple" T.isinstance T.tuple (ha := (vO 4))))) (PL.b1 (zSet 6 1 (pv 6) (fTup T.tuple (ha := (yC (vP 4) yN))))) PL.b0)
    (PL.bC (zAsg (cal1 C_law_said hr (by decide) (yC (bMod (EP.o (bDiv (EP.o (cal1 C_law_at hr (by decide) (yC (vP 0) (yC cI yN)))) (EP.o cI))) (EP.o cI)) (yC (ixx (vO 6) (EP.o cI)) (yC (ixx (vO 6) (EP.o cI)) yN)))) (gN (S := [7]) 7 sc_law.nd))
    (PL.bC (zIf (EW.tt (wO (tcmp (kNeS hu) (vO 6) (EN.o (dLst (yC (vP 1) (yC (vP 4) yN))))) (wO1 (tcmp (kNe hu) (EP.o (ixx (vO 7) (EP.o cI))) (EP.o (ixx (vO 5) (EP.o cI))))))) (PL.b1 (zRet cB)) PL.b0)
    (PL.bC (zIf (EW.tt (wO (tcmp kIsT (EP.o (ixx (vO 5) (EP.o cI))) (EP.o cB)) (wO1 (tIsN_ (EP.o (ixx (vO 5) (EP.o cI))))))) (PL.b1 (zRet (vAnd (EP.o (cmp (kEq hu) (EP.o (fIsi "bool" T.isinstance T.bool (ha := (EP.o (ixx (vO 7) (EP.o cI)))))) (EP.o (fIsi "bool" T.isinstance T.bool (ha := (EP.o (ixx (vO 5) (EP.o cI)))))))) (vOne (cmp (kEq hu) (EP.o (ixx (vO 7) (EP.o cI))) (EP.o (ixx (vO 5) (EP.o cI)))))))) PL.b0)
    (PL.b1 (zRet (vAnd (EP.o (cal1 C_law_whole hr (by decide) (yC (ixx (vO 7) (EP.o cI)) yN))) (vOne (cmp (kEq hu) (EP.o (ixx (vO 7) (EP.o cI))) (EP.o (ixx (vO 5) (EP.o cI))))))))))))))))))))))))))

end
end K01
namespace K01
open PySem L2 PySem.Spec PyProof.Rows PL PR
theorem m_at (ns : List Int) (k : Nat) : f__law_at [scrD (ns.map PyData.int), .int k] = some (.int (ns.getD k 0)) := by
  unfold f__law_at fnD F__law_at
  simp [sSeq, sIf, tE, e2, eVarO, eVar, fEnv, gB, eA, aCons, aNil, gLen, dLen, scrD, asB, sRet, sNext, bindO, outD, gIx, eC, atI, ixN]
  by_cases h : k < ns.length
  · simp [h]
  · simp [h, List.getElem?_eq_none (Nat.le_of_not_lt h)]
theorem m_called (c : Int) (k : Nat) (sg : Str) (hs : (cs sg).length ≤ 2) : f__law_called [.int c, .int k, .str sg] = some (.str ⟨(callL c k (cs sg)).toArray⟩) := by
  have hl : sg.length ≤ 2 := by rw [← cs_len]; exact hs
  unfold f__law_called fnD F__law_called
  have h0 : fEnv 9 [PyData.int c, .int k, .str sg] = [.sh (.int c), .sh (.int k), .sh (.str sg), .un, .un, .un, .un, .un, .un] := rfl
  rw [h0, seq_asg rfl, seq_asg (add_ev rfl (mul_ev (mul_ev rfl rfl (cmul_l (by omega))) (mod_ev rfl rfl (by omega)) (cmul_r (by omega)))),
    seq_asg (mod_ev (div_ev rfl rfl (by omega)) (sub_ev rfl (lent_ev (z := sg) rfl (by omega))) (by omega))]
  generalize ht : c + 31 * (k : Int) * (c % 2) = t
  generalize hn : t / 26 % (9 - (sg.length : Int)) = n
  have hn0 : 0 ≤ n ∧ n ≤ 8 := by
    have := Int.emod_nonneg (t / 26) (show (9 - (sg.length : Int)) ≠ 0 by omega)
    have := Int.emod_lt_of_pos (t / 26) (show 0 < (9 - (sg.length : Int)) by omega)
    omega
  obtain ⟨N, rfl⟩ := Int.eq_ofNat_of_zero_le hn0.1
  have hN : N ≤ 8 := by omega
  have hcomp : nLc (iR1 (aCons (eVarO 5) aNil)) (tgN 8) (fun _ => some true) (e2 gIx (eVarO 3) (e2 (gIC cMod (· % ·)) (e2 gAdd (eVarO 4) (e2 (gIC cMul (· * ·)) (e2 (gIC cMul (· * ·)) (eC (.int 5)) (eVarO 8)) (e2 gAdd (eC (.int 1)) (e2 (gIC cMod (· % ·)) (eVarO 4) (eC (.int 3)))))) (eC (.int 26)))) [8]
      [.sh (.int c), .sh (.int k), .sh (.str sg), .sh (.str "abcdefghijklmnopqrstuvwxyz"), .sh (.int t), .sh (.int (N : Int)), .un, .un, .un] = some ((callT t N).map fun c => .str ⟨#[c]⟩) := by
    unfold nLc
    have h1 : iR1 (aCons (eVarO 5) aNil) [.sh (.int c), .sh (.int k), .sh (.str sg), .sh (.str "abcdefghijklmnopqrstuvwxyz"), .sh (.int t), .sh (.int (N : Int)), .un, .un, .un] = some (rgD 0 N) := by
      show (if -100000 ≤ (N : Int) ∧ (N : Int) ≤ 100000 then some (rgD 0 (N : Int).toNat) else none) = _
      rw [if_pos (by omega), Int.toNat_natCast]
    rw [h1, Option.bind_some, if_pos (by unfold rgD; rw [List.length_map, List.length_range]; omega)]
    rw [lc_all (fun x => [.sh (.int c), .sh (.int k), .sh (.str sg), .sh (.str "abcdefghijklmnopqrstuvwxyz"), .sh (.int t), .sh (.int (N : Int)), .un, .un, .sh x]) (fun x => match x with | .int j => .str ⟨#[97 + ((t + 5 * j * (1 + t % 3)) % 26).toNat]⟩ | _ => .none) _ (fun x _ => rfl)]
    · unfold rgD callT
      rw [List.map_map, List.map_map]
      congr 1
      apply List.map_congr_left
      intro j _
      show PyData.str ⟨#[97 + ((t + 5 * (0 + (j : Int)) * (1 + t % 3)) % 26).toNat]⟩ = PyData.str ⟨#[97 + ((t + 5 * (j : Int) * (1 + t % 3)) % 26).toNat]⟩
      rw [Int.zero_add]
    · intro x hx
      unfold rgD at hx
      obtain ⟨j, _, rfl⟩ := List.mem_map.mp hx
      have hm := mod_ev (env := [.sh (.int c), .sh (.int k), .sh (.str sg), .sh (.str "abcdefghijklmnopqrstuvwxyz"), .sh (.int t), .sh (.int (N : Int)), .un, .un, .sh (.int (0 + (j : Int)))]) (a := e2 gAdd (eVarO 4) (e2 (gIC cMul (· * ·)) (e2 (gIC cMul (· * ·)) (eC (.int 5)) (eVarO 8)) (e2 gAdd (eC (.int 1)) (e2 (gIC cMod (· % ·)) (eVarO 4) (eC (.int 3)))))) (b := eC (.int 26)) (add_ev rfl (mul_ev (mul_ev rfl rfl (cmul_l (by omega))) (add_ev rfl (mod_ev rfl rfl (by omega))) (cmul_r (by omega)))) rfl (by omega)
      show (eVarO 3 _).bind (fun x => (e2 (gIC cMod (· % ·)) _ _ _).bind fun y => gIx x y) = _
      rw [hm]
      exact letter_at _ (Int.emod_nonneg _ (by omega)) (Int.emod_lt_of_pos _ (by omega))
  obtain ⟨z, hz, hcz⟩ := join_ev hcomp (by unfold callT; rw [List.length_map, List.length_range]; omega)
  have hzl : z.length = N := by
    rw [← cs_len, hcz]
    unfold callT
    rw [List.length_map, List.length_range]
  rw [show ((([Sl.sh (PyData.int c), .sh (.int k), .sh (.str sg), .un, .un, .un, .un, .un, .un].set 3 (.sh (.str "abcdefghijklmnopqrstuvwxyz"))).set 4 (.sh (.int t))).set 5 (.sh (.int (N : Int)))) = [.sh (.int c), .sh (.int k), .sh (.str sg), .sh (.str "abcdefghijklmnopqrstuvwxyz"), .sh (.int t), .sh (.int (N : Int)), .un, .un, .un] from rfl]
  rw [seq_asg hz, seq_asg rfl, if_seq (eqi_ev (mod_ev rfl rfl (by omega)) rfl)]
  have fin : ∀ p : Nat, outD (sRet (e2 gAdd (e2 gAdd (eSlS (eVarO 6) oNone (oSome (eVarO 7))) (eVarO 2)) (eSlS (eVarO 6) (oSome (eVarO 7)) oNone)) [.sh (.int c), .sh (.int k), .sh (.str sg), .sh (.str "abcdefghijklmnopqrstuvwxyz"), .sh (.int t), .sh (.int (N : Int)), .sh (.str z), .sh (.int (p : Int)), .un]) = some (.str ⟨((callT t N).take p ++ cs sg ++ (callT t N).drop p).toArray⟩) := fun p => by
    have e1 := cut_to_ev (env := [.sh (.int c), .sh (.int k), .sh (.str sg), .sh (.str "abcdefghijklmnopqrstuvwxyz"), .sh (.int t), .sh (.int (N : Int)), .sh (.str z), .sh (.int (p : Int)), .un]) (f := eVarO 6) (g := eVarO 7) (z := z) (k := p) rfl rfl (by omega)
    have e2' := cut_from_ev (env := [.sh (.int c), .sh (.int k), .sh (.str sg), .sh (.str "abcdefghijklmnopqrstuvwxyz"), .sh (.int t), .sh (.int (N : Int)), .sh (.str z), .sh (.int (p : Int)), .un]) (f := eVarO 6) (g := eVarO 7) (z := z) (k := p) rfl rfl (by omega)
    have l1 : (cutS z none (some (p : Int))).length ≤ 8 := by rw [← cs_len, cs_cut_to, List.length_take, cs_len]; omega
    have l2 : (cutS z (some (p : Int)) none).length ≤ 8 := by rw [← cs_len, cs_cut_from, List.length_drop, cs_len]; omega
    have e3 := cat_ev (a := eSlS (eVarO 6) oNone (oSome (eVarO 7))) (b := eVarO 2) e1 (show eVarO 2 _ = some (.str sg) from rfl) (by omega)
    have l3 : (cutS z none (some (p : Int)) ++ sg).length ≤ 10 := by rw [← cs_len, cs_app, List.length_append, cs_len, cs_len]; omega
    have e4 := cat_ev e3 e2' (by omega)
    unfold sRet
    rw [e4]
    show some (PyData.str _) = some (PyData.str _)
    congr 2
    apply cs_inj
    rw [cs_app, cs_app, cs_cut_to, cs_cut_from, hcz]
    rfl
  unfold callL
  simp only [ht, cs_len]
  rw [hn, Int.toNat_natCast]
  by_cases he : c % 2 = 0
  · rw [decide_eq_true he, if_pos rfl, if_pos he]
    rw [seq_asg (mod_ev (div_ev rfl rfl (by omega)) (add_ev rfl rfl) (by omega))]
    have hp := Int.emod_nonneg (c / 4) (show ((N : Int) + 1) ≠ 0 by omega)
    obtain ⟨p, hp⟩ := Int.eq_ofNat_of_zero_le hp
    rw [hp, Int.toNat_natCast]
    exact fin p
  · rw [decide_eq_false he, if_neg Bool.false_ne_true, if_neg he, next_seq]
    exact fin N
theorem at_ev {env : PL.Env} {ns : List Int} {k : Nat} (h : env[0]? = some (.sh (scrD (ns.map PyData.int)))) : eA (fun ds => if ds.length = 2 then f__law_at ds else none) (aCons (eVar 0) (aCons (eC (.int (k : Int))) aNil)) env = some (.int (ns.getD k 0)) := by
  refine call2_ev (x := scrD (ns.map PyData.int)) (y := .int (k : Int)) ?_ rfl (m_at ns k)
  unfold eVar
  rw [h]
theorem at0_ev {env : PL.Env} {ns : List Int} (h : env[0]? = some (.sh (scrD (ns.map PyData.int)))) : eA (fun ds => if ds.length = 2 then f__law_at ds else none) (aCons (eVar 0) (aCons (eC (.int 0)) aNil)) env = some (.int (ns.getD 0 0)) := at_ev (k := 0) h
theorem at1_ev {env : PL.Env} {ns : List Int} (h : env[0]? = some (.sh (scrD (ns.map PyData.int)))) : eA (fun ds => if ds.length = 2 then f__law_at ds else none) (aCons (eVar 0) (aCons (eC (.int 1)) aNil)) env = some (.int (ns.getD 1 0)) := at_ev (k := 1) h
theorem at2_ev {env : PL.Env} {ns : List Int} (h : env[0]? = some (.sh (scrD (ns.map PyData.int)))) : eA (fun ds => if ds.length = 2 then f__law_at ds else none) (aCons (eVar 0) (aCons (eC (.int 2)) aNil)) env = some (.int (ns.getD 2 0)) := at_ev (k := 2) h
theorem at3_ev {env : PL.Env} {ns : List Int} (h : env[0]? = some (.sh (scrD (ns.map PyData.int)))) : eA (fun ds => if ds.length = 2 then f__law_at ds else none) (aCons (eVar 0) (aCons (eC (.int 3)) aNil)) env = some (.int (ns.getD 3 0)) := at_ev (k := 3) h
theorem at4_ev {env : PL.Env} {ns : List Int} (h : env[0]? = some (.sh (scrD (ns.map PyData.int)))) : eA (fun ds => if ds.length = 2 then f__law_at ds else none) (aCons (eVar 0) (aCons (eC (.int 4)) aNil)) env = some (.int (ns.getD 4 0)) := at_ev (k := 4) h
theorem at5_ev {env : PL.Env} {ns : List Int} (h : env[0]? = some (.sh (scrD (ns.map PyData.int)))) : eA (fun ds => if ds.length = 2 then f__law_at ds else none) (aCons (eVar 0) (aCons (eC (.int 5)) aNil)) env = some (.int (ns.getD 5 0)) := at_ev (k := 5) h
def plotsBody : PL.Env → Option Out := (sSeq (sAsg (e2 (gIC cMod (· % ·)) (e2 (gIC cMod (· % ·)) (e2 (gIC cMul (· * ·)) (e2 gAdd (eA (fun ds => if ds.length = 2 then f__law_at ds else none) (aCons (eVar 0) (aCons (eC (.int 1)) aNil))) (e2 (gIC cMul (· * ·)) (eC (.int 7)) (eVarO 3))) (eC (.int 48271))) (eC (.int 10007))) (e2 gAdd (eVarO 3) (eC (.int 1)))) (tgN 4))
    (sSeq (sIf (tA (tE (e2 gEq (e2 (gIC cMod (· % ·)) (eA (fun ds => if ds.length = 2 then f__law_at ds else none) (aCons (eVar 0) (aCons (eC (.int 1)) aNil))) (eC (.int 4))) (eC (.int 3)))) (tE (e2 (gB fun i j => decide (j < i)) (eVarO 3) (eC (.int 0))))) (sAsg (e2 (gI (· - ·)) (eVarO 3) (eC (.int 1))) (tgN 4)) sNext)
    (sSeq (sAsg (eC .none) (tgN 5))
    (sSeq (sIf (tE (e2 (gB fun i j => decide (i < j)) (eVarO 4) (eVarO 3))) (sAsg (e2 gIx (e2 gIx (eVarO 2) (eVarO 4)) (eC (.int 0))) (tgN 5)) sNext)
    (sApp 2 (eTup (aCons (eA (fun ds => if ds.length = 3 then f__law_called ds else none) (aCons (e2 (gIC cDiv (· / ·)) (eA (fun ds => if ds.length = 2 then f__law_at ds else none) (aCons (eVar 0) (aCons (eC (.int 1)) aNil))) (eC (.int 3))) (aCons (eVar 3) (aCons (e2 gIx (eC (.str "abcdefghijkl")) (eVarO 3)) aNil)))) (aCons (eVar 5) aNil))))))))
theorem plots_turn (ns : List Int) (many : PyData) (i : Nat) (hi : i < 12) (a b c : Sl) :
    ∃ b' c', plotsBody
      [.sh (scrD (ns.map PyData.int)), .sh many, .own (((List.range i).map (plotM ns)).map encP), .sh (.int (i : Int)), b, c] = some (.nx [.sh (scrD (ns.map PyData.int)), .sh many, .own (((List.range (i + 1)).map (plotM ns)).map encP), .sh (.int (i : Int)), b', c']) := by
  unfold plotsBody
  rw [seq_asg (mod_ev (mod_ev (mul_ev (add_ev (at1_ev rfl) (mul_ev rfl rfl (cmul_l (by omega)))) rfl (cmul_r (by omega))) rfl (by omega)) (add_ev rfl rfl) (by omega))]
  rw [if_seq (tA_ev (eqi_ev (mod_ev (at1_ev rfl) rfl (by omega)) rfl) (fun _ => gt_ev rfl rfl))]
  have hpick : ∃ p : Nat, pickM ns i = (p : Int) := Int.eq_ofNat_of_zero_le (pickM_nn ns i)
  obtain ⟨p, hp⟩ := hpick
  dsimp only [List.set]
  have h2 : ∀ R : PL.Env → Option Out, sSeq (if (decide (ns.getD 1 0 % 4 = 3) && decide ((0 : Int) < (i : Int))) = true then sAsg (e2 (gI (· - ·)) (eVarO 3) (eC (.int 1))) (tgN 4) else sNext) R
      [.sh (scrD (ns.map PyData.int)), .sh many, .own (((List.range i).map (plotM ns)).map encP), .sh (.int (i : Int)), .sh (.int ((ns.getD 1 0 + 7 * (i : Int)) * 48271 % 10007 % ((i : Int) + 1))), c]
    = R [.sh (scrD (ns.map PyData.int)), .sh many, .own (((List.range i).map (plotM ns)).map encP), .sh (.int (i : Int)), .sh (.int (p : Int)), c] := fun R => by
    rw [← hp]
    unfold pickM
    by_cases hc : ns.getD 1 0 % 4 = 3 ∧ 0 < i
    · rw [if_pos hc, if_pos (by rw [Bool.and_eq_true, decide_eq_true_eq, decide_eq_true_eq]; omega)]
      rw [seq_nx (asg_nx (sub_ev rfl rfl))]
      rfl
    · rw [if_neg hc, if_neg (by rw [Bool.and_eq_true, decide_eq_true_eq, decide_eq_true_eq]; omega)]
      rfl
  rw [h2, seq_nx (asg_nx (d := .none) rfl)]
  dsimp only [List.set]
  have hname : ∀ s4 s5 : Sl, eA (fun ds => if ds.length = 3 then f__law_called ds else none) (aCons (e2 (gIC cDiv (· / ·)) (eA (fun ds => if ds.length = 2 then f__law_at ds else none) (aCons (eVar 0) (aCons (eC (.int 1)) aNil))) (eC (.int 3))) (aCons (eVar 3) (aCons (e2 gIx (eC (.str "abcdefghijkl")) (eVarO 3)) aNil))) [.sh (scrD (ns.map PyData.int)), .sh many, .own (((List.range i).map (plotM ns)).map encP), .sh (.int (i : Int)), s4, s5] = some (.str (nameM ns i)) := fun s4 s5 => by
    refine call3_ev (div_ev (at1_ev rfl) rfl (by omega)) (y := .int (i : Int)) rfl (u := .str ⟨#[97 + i]⟩) ?_ ?_
    · show (if (Str.ofString "abcdefghijkl").length ≤ 100000 then (atI (Str.ofString "abcdefghijkl").cps.toList ((i : Nat) : Int)).map fun c => PyData.str ⟨#[c]⟩ else none) = _
      rw [if_pos (by decide +kernel), abc_at i hi]
      rfl
    · have := m_called (ns.getD 1 0 / 3) i ⟨#[97 + i]⟩ (by show 1 ≤ 2; decide)
      exact this
  have happ : ∀ (s4 : Sl) (o : Option Str), sApp 2 (eTup (aCons (eA (fun ds => if ds.length = 3 then f__law_called ds else none) (aCons (e2 (gIC cDiv (· / ·)) (eA (fun ds => if ds.length = 2 then f__law_at ds else none) (aCons (eVar 0) (aCons (eC (.int 1)) aNil))) (eC (.int 3))) (aCons (eVar 3) (aCons (e2 gIx (eC (.str "abcdefghijkl")) (eVarO 3)) aNil)))) (aCons (eVar 5) aNil))) [.sh (scrD (ns.map PyData.int)), .sh many, .own (((List.range i).map (plotM ns)).map encP), .sh (.int (i : Int)), s4, .sh (optD o)] = some (.nx [.sh (scrD (ns.map PyData.int)), .sh many, .own (((List.range i).map (plotM ns)).map encP ++ [encP (nameM ns i, o)]), .sh (.int (i : Int)), s4, .sh (optD o)]) := fun s4 o => by
    rw [app_nx (ds := ((List.range i).map (plotM ns)).map encP) rfl (tup2_ev (hname _ _) rfl) (by rw [List.length_map, List.length_map, List.length_range]; omega)]
    rfl
  have hdone : ((List.range (i + 1)).map (plotM ns)).map encP = ((List.range i).map (plotM ns)).map encP ++ [encP (plotM ns i)] := by
    rw [List.range_succ, List.map_append, List.map_append]
    rfl
  rw [if_seq (lt_ev rfl rfl)]
  by_cases hc : (p : Int) < (i : Int)
  · rw [decide_eq_true hc, if_pos rfl]
    have hpl : plotM ns i = (nameM ns i, some (nameM ns p)) := by
      unfold plotM
      rw [hp, if_pos hc, Int.toNat_natCast]
    have h5 : e2 gIx (e2 gIx (eVarO 2) (eVarO 4)) (eC (.int 0)) [.sh (scrD (ns.map PyData.int)), .sh many, .own (((List.range i).map (plotM ns)).map encP), .sh (.int (i : Int)), .sh (.int (p : Int)), .sh .none] = some (.str (nameM ns p)) := by
      refine ixt_ev (ds := [.str (nameM ns p), optD (plotM ns p).2]) (ix_ev (ds := ((List.range i).map (plotM ns)).map encP) rfl rfl ?_) rfl rfl
      refine atI_nat' ?_
      rw [List.getElem?_map, List.getElem?_map, List.getElem?_range (by omega)]
      rfl
    rw [seq_nx (asg_nx h5)]
    dsimp only [List.set]
    refine ⟨.sh (.int (p : Int)), .sh (optD (some (nameM ns p))), (happ _ (some (nameM ns p))).trans ?_⟩
    rw [hdone, hpl]
  · rw [decide_eq_false hc, if_neg Bool.false_ne_true, next_seq]
    have hpl : plotM ns i = (nameM ns i, none) := by
      unfold plotM
      rw [hp, if_neg hc]
    refine ⟨.sh (.int (p : Int)), .sh (optD none), (happ _ none).trans ?_⟩
    rw [hdone, hpl]
theorem m_plots (ns : List Int) : f__law_plots [scrD (ns.map PyData.int)] = some ((plotsM ns).map encP) := by
  unfold f__law_plots fnN F__law_plots
  have h0 : fEnv 6 [scrD (ns.map PyData.int)] = [.sh (scrD (ns.map PyData.int)), .un, .un, .un, .un, .un] := rfl
  rw [h0, seq_asg (add_ev rfl (mod_ev (at0_ev rfl) rfl (by omega))), if_seq (eqi_ev (mod_ev (div_ev (at0_ev rfl) rfl (by omega)) rfl (by omega)) rfl)]
  dsimp only [List.set]
  have hm := manyM_le ns
  generalize hrest : sSeq (sOwn (nLst aNil) 2) _ = rest
  have h1 : sSeq (if decide (ns.getD 0 0 / 4 % 8 = 1) = true then sAsg (e2 (gI (· - ·)) (eC (.int 12)) (e2 (gIC cMod (· % ·)) (e2 (gIC cDiv (· / ·)) (eA (fun ds => if ds.length = 2 then f__law_at ds else none) (aCons (eVar 0) (aCons (eC (.int 0)) aNil))) (eC (.int 32))) (eC (.int 8)))) (tgN 1) else sNext) rest [.sh (scrD (ns.map PyData.int)), .sh (.int (1 + ns.getD 0 0 % 4)), .un, .un, .un, .un] = rest [.sh (scrD (ns.map PyData.int)), .sh (.int (manyM ns : Int)), .un, .un, .un, .un] := by
    by_cases hc : ns.getD 0 0 / 4 % 8 = 1
    · rw [decide_eq_true hc, if_pos rfl, seq_nx (asg_nx (sub_ev rfl (mod_ev (div_ev (at0_ev rfl) rfl (by omega)) rfl (by omega))))]
      have : (manyM ns : Int) = 12 - ns.getD 0 0 / 32 % 8 := by
        unfold manyM
        rw [if_pos hc]
        omega
      rw [this]
      rfl
    · rw [decide_eq_false hc, if_neg Bool.false_ne_true, next_seq]
      have : (manyM ns : Int) = 1 + ns.getD 0 0 % 4 := by
        unfold manyM
        rw [if_neg hc]
        omega
      rw [this]
  have h1' := h1
  show (match sSeq _ rest [.sh (scrD (ns.map PyData.int)), .sh (.int (1 + ns.getD 0 0 % 4)), .un, .un, .un, .un] with | some (.rtn es) => some es | _ => none) = _
  rw [h1', ← hrest]
  rw [seq_nx (e := [.sh (scrD (ns.map PyData.int)), .sh (.int (manyM ns : Int)), .own [], .un, .un, .un]) rfl]
  obtain ⟨e', h3, h4⟩ := for_inv (G := tgN 3) (F := plotsBody) (fun i e => i ≤ manyM ns ∧ ∃ a b c, e = [.sh (scrD (ns.map PyData.int)), .sh (.int (manyM ns : Int)), .own (((List.range i).map (plotM ns)).map encP), a, b, c]) (rgD 0 (manyM ns)) 0 [.sh (scrD (ns.map PyData.int)), .sh (.int (manyM ns : Int)), .own [], .un, .un, .un] ⟨Nat.zero_le _, _, _, _, rfl⟩ (fun i x e hx he => by
    rw [Nat.zero_add] at he ⊢
    obtain ⟨hi, a, b, c, rfl⟩ := he
    unfold rgD at hx
    rw [List.getElem?_map] at hx
    have hil : i < manyM ns := by
      have := (List.getElem?_eq_some_iff.mp (show (List.range (manyM ns))[i]? = some i by
        cases q : (List.range (manyM ns))[i]? with
        | none => rw [q] at hx; cases hx
        | some j =>
          obtain ⟨h1, h2⟩ := List.getElem?_eq_some_iff.mp q
          rw [List.getElem_range] at h2
          rw [h2])).1
      rw [List.length_range] at this
      exact this
    rw [List.getElem?_range hil] at hx
    cases hx
    obtain ⟨b', c', ht⟩ := plots_turn ns (.int (manyM ns : Int)) i (by omega) a b c
    refine ⟨[.sh (scrD (ns.map PyData.int)), .sh (.int (manyM ns : Int)), .own (((List.range (i + 1)).map (plotM ns)).map encP), .sh (.int (i : Int)), b', c'], .inl ?_, by omega, _, _, _, rfl⟩
    show plotsBody [.sh (scrD (ns.map PyData.int)), .sh (.int (manyM ns : Int)), .own (((List.range i).map (plotM ns)).map encP), .sh (.int (0 + (i : Int))), b, c] = _
    rw [Int.zero_add]
    exact ht)
  obtain ⟨_, a, b, c, rfl⟩ := h4
  have h5 : iR1 (aCons (eVarO 1) aNil) [.sh (scrD (ns.map PyData.int)), .sh (.int (manyM ns : Int)), .own [], .un, .un, .un] = some (rgD 0 (manyM ns)) := by
    show (if -100000 ≤ (manyM ns : Int) ∧ (manyM ns : Int) ≤ 100000 then some (rgD 0 (manyM ns : Int).toNat) else none) = _
    rw [if_pos (by omega), Int.toNat_natCast]
  have h6 : ∀ F, sFor (iR1 (aCons (eVarO 1) aNil)) (tgN 3) F [.sh (scrD (ns.map PyData.int)), .sh (.int (manyM ns : Int)), .own [], .un, .un, .un] = fGo (tgN 3) F (rgD 0 (manyM ns)) [.sh (scrD (ns.map PyData.int)), .sh (.int (manyM ns : Int)), .own [], .un, .un, .un] := fun F => by
    show (iR1 _ _).bind _ = _
    rw [h5]
    rfl
  show (match sSeq (sFor (iR1 (aCons (eVarO 1) aNil)) (tgN 3) plotsBody) (sRetO 2) [.sh (scrD (ns.map PyData.int)), .sh (.int (manyM ns : Int)), .own [], .un, .un, .un] with | some (.rtn es) => some es | _ => none) = _
  rw [seq_nx ((h6 _).trans h3)]
  have hz : 0 + (rgD 0 (manyM ns)).length = manyM ns := by
    unfold rgD
    rw [List.length_map, List.length_range]
    omega
  rw [hz]
  rfl
theorem m_names (ns : List Int) : f__law_names [scrD (ns.map PyData.int), encPs (plotsM ns)] = some ((namesM ns).map PyData.str) := by
  have hm := nmany_le (ns.getD 2 0)
  have hpl := manyM_le ns
  unfold f__law_names fnN F__law_names
  have h0 : fEnv 8 [scrD (ns.map PyData.int), encPs (plotsM ns)] = [.sh (scrD (ns.map PyData.int)), .sh (encPs (plotsM ns)), .un, .un, .un, .un, .un, .un] := rfl
  rw [h0, seq_asg (at2_ev rfl)]
  dsimp only [List.set]
  generalize hc : ns.getD 2 0 = c at *
  rw [seq_asg (add_ev (i := 1) rfl (mod_ev (i := c) rfl rfl (by omega)))]
  dsimp only [List.set]
  rw [if_seq (eqi_ev (mod_ev (div_ev (i := c) rfl rfl (by omega)) rfl (by omega)) rfl)]
  generalize hrest : sSeq (sIf (tE (e2 gEq (e2 (gIC cMod (· % ·)) (e2 (gIC cDiv (· / ·)) (eVarO 2) (eC (.int 5))) (eC (.int 4))) (eC (.int 1)))) _ _) _ = rest
  have hs : sSeq (if decide (c / 5 % 16 = 3) = true then sAsg (eC (.int 60)) (tgN 3) else sNext) rest [.sh (scrD (ns.map PyData.int)), .sh (encPs (plotsM ns)), .sh (.int c), .sh (.int (1 + c % 5)), .un, .un, .un, .un]
      = rest [.sh (scrD (ns.map PyData.int)), .sh (encPs (plotsM ns)), .sh (.int c), .sh (.int (nmanyM c : Int)), .un, .un, .un, .un] := by
    by_cases h : c / 5 % 16 = 3
    · rw [decide_eq_true h, if_pos rfl, seq_nx (asg_nx (d := .int 60) rfl)]
      have : nmanyM c = 60 := by unfold nmanyM; rw [if_pos h]; rfl
      rw [this]
      rfl
    · rw [decide_eq_false h, if_neg Bool.false_ne_true]
      have : (nmanyM c : Int) = 1 + c % 5 := by unfold nmanyM; rw [if_neg h]; omega
      rw [this]
      rfl
  rw [hs, ← hrest]
  rw [if_seq (eqi_ev (mod_ev (div_ev (i := c) rfl rfl (by omega)) rfl (by omega)) rfl)]
  unfold namesM
  rw [hc]
  by_cases h : c / 5 % 4 = 1
  · rw [decide_eq_true h, if_pos rfl, if_pos h]
    have hl : nLc (iLS (eVarO 1)) (tgT 2 (tgCons (tgN 6) (tgCons (tgN 7) tgNil))) (fun _ => some true) (eVar 6) [6, 7] [.sh (scrD (ns.map PyData.int)), .sh (encPs (plotsM ns)), .sh (.int c), .sh (.int (nmanyM c : Int)), .un, .un, .un, .un] = some ((plotsM ns).map fun q => .str q.1) := by
      have hi : iLS (eVarO 1) [.sh (scrD (ns.map PyData.int)), .sh (encPs (plotsM ns)), .sh (.int c), .sh (.int (nmanyM c : Int)), .un, .un, .un, .un] = some ((plotsM ns).map encP) := rfl
      unfold nLc
      rw [hi, Option.bind_some, if_pos (by rw [List.length_map, plots_len]; omega)]
      rw [lc_all (fun d => match d with | .tuple [a, b] => [.sh (scrD (ns.map PyData.int)), .sh (encPs (plotsM ns)), .sh (.int c), .sh (.int (nmanyM c : Int)), .un, .un, .sh a, .sh b] | _ => []) (fun d => match d with | .tuple [a, _] => a | _ => .none)]
      · rw [List.map_map]
        rfl
      · intro d m
        obtain ⟨q, _, rfl⟩ := List.mem_map.mp m
        rfl
      · intro d m
        obtain ⟨q, _, rfl⟩ := List.mem_map.mp m
        rfl
    have hsl : nSl (eL (nLc (iLS (eVarO 1)) (tgT 2 (tgCons (tgN 6) (tgCons (tgN 7) tgNil))) (fun _ => some true) (eVar 6) [6, 7])) oNone (oSome (eVarO 3)) [.sh (scrD (ns.map PyData.int)), .sh (encPs (plotsM ns)), .sh (.int c), .sh (.int (nmanyM c : Int)), .un, .un, .un, .un] = some ((((plotsM ns).map (·.1)).take (nmanyM c)).map PyData.str) := by
      unfold nSl
      rw [eL_ev hl]
      show some (PL.cutD ((plotsM ns).map fun q => PyData.str q.1) none (some (nmanyM c : Int))) = _
      rw [cutD_to, List.map_take, List.map_map]
      rfl
    have hr : ∀ R : PL.Env → Option Out, sSeq (sRetN (nSl (eL (nLc (iLS (eVarO 1)) (tgT 2 (tgCons (tgN 6) (tgCons (tgN 7) tgNil))) (fun _ => some true) (eVar 6) [6, 7])) oNone (oSome (eVarO 3)))) R [.sh (scrD (ns.map PyData.int)), .sh (encPs (plotsM ns)), .sh (.int c), .sh (.int (nmanyM c : Int)), .un, .un, .un, .un] = some (.rtn ((((plotsM ns).map (·.1)).take (nmanyM c)).map PyData.str)) := fun R => by
      unfold sSeq sRetN
      rw [hsl]
      rfl
    rw [hr]
  · rw [decide_eq_false h, if_neg Bool.false_ne_true, if_neg h, next_seq]
    rw [seq_asg (d := .str "zyxwvutsrqponmlkjihgfedcba") rfl]
    dsimp only [List.set]
    have hl : nLc (iR1 (aCons (eVarO 3) aNil)) (tgN 5) (fun _ => some true) (eA (fun ds => if ds.length = 3 then f__law_called ds else none) (aCons (e2 (gIC cDiv (· / ·)) (eVarO 2) (eC (.int 80))) (aCons (eVar 5) (aCons (e2 gAdd (e2 gIx (eC (.str "abc")) (e2 (gIC cDiv (· / ·)) (eVarO 5) (eC (.int 26)))) (e2 gIx (eVarO 4) (e2 (gIC cMod (· % ·)) (eVarO 5) (eC (.int 26))))) aNil)))) [5] [.sh (scrD (ns.map PyData.int)), .sh (encPs (plotsM ns)), .sh (.int c), .sh (.int (nmanyM c : Int)), .sh (.str "zyxwvutsrqponmlkjihgfedcba"), .un, .un, .un] = some (((List.range (nmanyM c)).map (nmM c)).map PyData.str) := by
      have hi : iR1 (aCons (eVarO 3) aNil) [.sh (scrD (ns.map PyData.int)), .sh (encPs (plotsM ns)), .sh (.int c), .sh (.int (nmanyM c : Int)), .sh (.str "zyxwvutsrqponmlkjihgfedcba"), .un, .un, .un] = some (rgD 0 (nmanyM c)) := by
        show (if -100000 ≤ (nmanyM c : Int) ∧ (nmanyM c : Int) ≤ 100000 then some (rgD 0 (nmanyM c : Int).toNat) else none) = _
        rw [if_pos (by omega)]
        rfl
      unfold nLc
      rw [hi, Option.bind_some, if_pos (by unfold rgD; rw [List.length_map, List.length_range]; omega)]
      rw [lc_all (fun d => [.sh (scrD (ns.map PyData.int)), .sh (encPs (plotsM ns)), .sh (.int c), .sh (.int (nmanyM c : Int)), .sh (.str "zyxwvutsrqponmlkjihgfedcba"), .sh d, .un, .un]) (fun d => match d with | .int i => .str (nmM c i.toNat) | _ => .none)]
      · unfold rgD
        rw [List.map_map, List.map_map]
        congr 1
        apply List.map_congr_left
        intro k _
        show PyData.str (nmM c (0 + (k : Int)).toNat) = .str (nmM c k)
        rw [Int.zero_add, Int.toNat_natCast]
      · intro d m
        rfl
      · intro d m
        unfold rgD at m
        obtain ⟨k, mk, rfl⟩ := List.mem_map.mp m
        rw [List.mem_range] at mk
        show _ = some (PyData.str (nmM c (0 + (k : Int)).toNat))
        rw [Int.zero_add, Int.toNat_natCast]
        have e1 : (k : Int) / 26 = ((k / 26 : Nat) : Int) := by omega
        have e2' : (k : Int) % 26 = ((k % 26 : Nat) : Int) := by omega
        have hb : ((⟨#[97 + k / 26]⟩ : Str) ++ (⟨#[122 - k % 26]⟩ : Str)) = ⟨#[97 + k / 26, 122 - k % 26]⟩ := rfl
        refine call3_ev (div_ev (i := c) rfl rfl (by omega)) (y := .int (k : Int)) rfl (u := .str ⟨#[97 + k / 26, 122 - k % 26]⟩) ?_ ?_
        · rw [← hb]
          refine cat_ev (strix_ev (z := "abc") rfl (div_ev (i := (k : Int)) rfl rfl (by omega)) (by decide +kernel) ?_) (strix_ev (z := "zyxwvutsrqponmlkjihgfedcba") rfl (mod_ev (i := (k : Int)) rfl rfl (by omega)) (by decide +kernel) ?_) (by show 1 + 1 ≤ 100000; omega)
          · rw [e1]
            exact abc3_at _ (by omega)
          · rw [e2']
            exact zyx_at _ (by omega)
        · exact m_called (c / 80) k ⟨#[97 + k / 26, 122 - k % 26]⟩ (by show 2 ≤ 2; omega)
    show (match sRetN _ _ with | some (.rtn es) => some es | _ => none) = _
    unfold sRetN
    rw [hl]
    rfl
theorem m_row (ps : List (Str × Option Str)) (nms : List Str) (c sz : Int) (h1 : 0 < ps.length) (h2 : 0 < nms.length) (h3 : 0 ≤ sz) : f__law_row [.int c, encPs ps, .list (nms.map PyData.str), .int sz] = some (encR (rowM ps nms c sz)) := by
  have hc : ∃ k : Nat, c % 10 = (k : Int) ∧ k < 10 := ⟨(c % 10).toNat, by omega, by omega⟩
  obtain ⟨k, hk, hk10⟩ := hc
  unfold f__law_row fnD F__law_row
  have h0 : fEnv 11 [.int c, encPs ps, .list (nms.map PyData.str), .int sz] = [.sh (.int c), .sh (encPs ps), .sh (.list (nms.map PyData.str)), .sh (.int sz), .un, .un, .un, .un, .un, .un, .un] := rfl
  rw [h0, seq_asg (mod_ev (add_ev (mul_ev (div_ev (i := c) rfl rfl (by omega)) rfl (cmul_r (by omega))) rfl) rfl (by omega))]
  dsimp only [List.set]
  rw [show (c / 10 * 48271 + 11) % 1000003 = moreM c from rfl]
  rw [seq_asg (pick_ev (l := nms) rfl rfl h2)]
  dsimp only [List.set]
  rw [seq_asg (pick_ev (l := nms) rfl (div_ev (i := moreM c) rfl rfl (by omega)) h2)]
  dsimp only [List.set]
  rw [seq_asg (pickp_ev (l := ps) rfl (div_ev (i := moreM c) rfl rfl (by omega)) h1)]
  dsimp only [List.set]
  rw [seq_asg (sub_ev (mod_ev (div_ev (i := c) rfl rfl (by omega)) rfl (by omega)) rfl)]
  dsimp only [List.set]
  rw [if_seq (eqi_ev (mod_ev (i := moreM c) rfl rfl (by omega)) rfl)]
  generalize hZ : (if moreM c % 4 = 1 then c / 10 % 2000000000000000001 - 1000000000000000000 else c / 10 % 19 - 9) = Z
  generalize hrest : sSeq (sAsg (e2 (gIC cMod (· % ·)) (e2 (gIC cDiv (· / ·)) (eVarO 4) (eC (.int 1013))) (e2 gAdd (eVarO 3) (eC (.int 1)))) (tgN 9)) _ = rest
  have hs : sSeq (if decide (moreM c % 4 = 1) = true then sAsg (e2 (gI (· - ·)) (e2 (gIC cMod (· % ·)) (e2 (gIC cDiv (· / ·)) (eVarO 0) (eC (.int 10))) (eC (.int 2000000000000000001))) (eC (.int 1000000000000000000))) (tgN 8) else sNext) rest
      [.sh (.int c), .sh (encPs ps), .sh (.list (nms.map PyData.str)), .sh (.int sz), .sh (.int (moreM c)), .sh (.str (pickS nms (moreM c))), .sh (.str (pickS nms (moreM c / 7))), .sh (.str (pickS (ps.map (·.1)) (moreM c / 61))), .sh (.int (c / 10 % 19 - 9)), .un, .un]
    = rest [.sh (.int c), .sh (encPs ps), .sh (.list (nms.map PyData.str)), .sh (.int sz), .sh (.int (moreM c)), .sh (.str (pickS nms (moreM c))), .sh (.str (pickS nms (moreM c / 7))), .sh (.str (pickS (ps.map (·.1)) (moreM c / 61))), .sh (.int Z), .un, .un] := by
    rw [← hZ]
    by_cases hc : moreM c % 4 = 1
    · rw [decide_eq_true hc, if_pos rfl, if_pos hc, seq_nx (asg_nx (sub_ev (mod_ev (div_ev (i := c) rfl rfl (by omega)) rfl (by omega)) rfl))]
      rfl
    · rw [decide_eq_false hc, if_neg Bool.false_ne_true, if_neg hc]
      rfl
  rw [hs, ← hrest]
  rw [seq_asg (mod_ev (div_ev (i := moreM c) rfl rfl (by omega)) (add_ev (i := sz) rfl rfl) (by omega))]
  dsimp only [List.set]
  rw [seq_asg (mod_ev (i := c) rfl rfl (by omega)), hk]
  dsimp only [List.set]
  have hrow : ∀ r, rowM ps nms c sz = r → encR (rowM ps nms c sz) = encR r := fun r h => by rw [h]
  have hm : (c % 10).toNat = k := by omega
  unfold rowM
  rw [hm, hZ]
  have hcs : k = 0 ∨ k = 1 ∨ k = 2 ∨ k = 3 ∨ k = 4 ∨ k = 5 ∨ k = 6 ∨ k = 7 ∨ k = 8 ∨ k = 9 := by omega
  rcases hcs with rfl | rfl | rfl | rfl | rfl | rfl | rfl | rfl | rfl | rfl <;> rfl
theorem m_whole (n : Int) : f__law_whole [.int n] = some (.bool true) := by
  unfold f__law_whole fnD F__law_whole
  have h1 : e1 (gIsi "int") (eVarO 0) [.sh (.int n)] = some (.bool true) := by
    show (kitB "int" "int").map PyData.bool = _
    rw [kb1]
    rfl
  have h2 : e1 (gIsi "bool") (eVarO 0) [.sh (.int n)] = some (.bool false) := by
    show (kitB "int" "bool").map PyData.bool = _
    rw [kb2]
    rfl
  show outD ((eAndB (e1 (gIsi "int") (eVarO 0)) (eNotB (e1 (gIsi "bool") (eVarO 0))) [.sh (.int n)]).map Out.rt) = _
  unfold eAndB eNotB tN tE
  rw [h1]
  show outD ((Option.map PyData.bool (Option.map (fun x => !x) ((e1 (gIsi "bool") (eVarO 0) [.sh (.int n)]).bind asB))).map Out.rt) = _
  rw [h2]
  rfl
end K01
namespace K01
open PX PySem L2 PySem.Spec PyProof.Rows PL PR
/-! Names, parts: what is_name and _law_name answer of any simple thing. -/
theorem letters_iff (c : Nat) : c ∈ (Str.ofString "abcdefghijklmnopqrstuvwxyz").cps.toList ↔ (97 ≤ c ∧ c < 123) := by
  constructor
  · intro h
    exact of_decide_eq_true (List.all_eq_true.mp (show ((Str.ofString "abcdefghijklmnopqrstuvwxyz").cps.toList.all fun c => decide (97 ≤ c ∧ c < 123)) = true by decide +kernel) c h)
  · intro h
    have : ∀ n : Nat, n < 26 → decide (97 + n ∈ (Str.ofString "abcdefghijklmnopqrstuvwxyz").cps.toList) = true := by decide +kernel
    have h2 := of_decide_eq_true (this (c - 97) (by omega))
    rw [show 97 + (c - 97) = c from by omega] at h2
    exact h2
def okC (c : Nat) : Bool := decide (97 ≤ c ∧ c < 123)
theorem letter_ev (c : Nat) : gInS true (.str ⟨#[c]⟩) (.str "abcdefghijklmnopqrstuvwxyz") = some (.bool (!okC c)) := by
  show some (PyData.bool (!decide (c ∈ (Str.ofString "abcdefghijklmnopqrstuvwxyz").cps.toList))) = _
  rw [decide_eq_decide.mpr (letters_iff c)]
  rfl
def okN (z : Str) : Bool := (decide (1 ≤ z.length) && decide (z.length ≤ 8)) && z.cps.toList.all okC
def isN : PyData → Bool
  | .str z => okN z
  | _ => false
def okT (z : Str) : Bool := PyData.strOk z && decide (z.length ≤ 1000)
/-- things without dicts of keys -/
def noD : PyData → Bool
  | .dict (_ :: _) => false
  | _ => true
def kS : PyData → Bool
  | .str _ => true
  | _ => false
def kT : PyData → Bool
  | .tuple _ => true
  | _ => false
def kL : PyData → Bool
  | .list _ => true
  | _ => false
def kB : PyData → Bool
  | .bool _ => true
  | _ => false
def kI : PyData → Bool
  | .bool _ => true
  | .int _ => true
  | _ => false
theorem isi_s {d : PyData} (h : noD d = true) : gIsi "str" d = some (.bool (kS d)) := by
  cases d with
  | dict kvs => cases kvs with
    | nil => show (kitB "dict" "str").map PyData.bool = _; rw [show kitB "dict" "str" = some false by decide +kernel]; rfl
    | cons _ _ => cases h
  | none => show (kitB "NoneType" "str").map PyData.bool = _; rw [show kitB "NoneType" "str" = some false by decide +kernel]; rfl
  | bool b => show (kitB "bool" "str").map PyData.bool = _; rw [show kitB "bool" "str" = some false by decide +kernel]; rfl
  | int b => show (kitB "int" "str").map PyData.bool = _; rw [show kitB "int" "str" = some false by decide +kernel]; rfl
  | str b => show (kitB "str" "str").map PyData.bool = _; rw [show kitB "str" "str" = some true by decide +kernel]; rfl
  | list b => show (kitB "list" "str").map PyData.bool = _; rw [show kitB "list" "str" = some false by decide +kernel]; rfl
  | tuple b => show (kitB "tuple" "str").map PyData.bool = _; rw [show kitB "tuple" "str" = some false by decide +kernel]; rfl
theorem isi_t {d : PyData} (h : noD d = true) : gIsi "tuple" d = some (.bool (kT d)) := by
  cases d with
  | dict kvs => cases kvs with
    | nil => show (kitB "dict" "tuple").map PyData.bool = _; rw [show kitB "dict" "tuple" = some false by decide +kernel]; rfl
    | cons _ _ => cases h
  | none => show (kitB "NoneType" "tuple").map PyData.bool = _; rw [show kitB "NoneType" "tuple" = some false by decide +kernel]; rfl
  | bool b => show (kitB "bool" "tuple").map PyData.bool = _; rw [show kitB "bool" "tuple" = some false by decide +kernel]; rfl
  | int b => show (kitB "int" "tuple").map PyData.bool = _; rw [show kitB "int" "tuple" = some false by decide +kernel]; rfl
  | str b => show (kitB "str" "tuple").map PyData.bool = _; rw [show kitB "str" "tuple" = some false by decide +kernel]; rfl
  | list b => show (kitB "list" "tuple").map PyData.bool = _; rw [show kitB "list" "tuple" = some false by decide +kernel]; rfl
  | tuple b => show (kitB "tuple" "tuple").map PyData.bool = _; rw [show kitB "tuple" "tuple" = some true by decide +kernel]; rfl
theorem isi_l {d : PyData} (h : noD d = true) : gIsi "list" d = some (.bool (kL d)) := by
  cases d with
  | dict kvs => cases kvs with
    | nil => show (kitB "dict" "list").map PyData.bool = _; rw [show kitB "dict" "list" = some false by decide +kernel]; rfl
    | cons _ _ => cases h
  | none => show (kitB "NoneType" "list").map PyData.bool = _; rw [show kitB "NoneType" "list" = some false by decide +kernel]; rfl
  | bool b => show (kitB "bool" "list").map PyData.bool = _; rw [show kitB "bool" "list" = some false by decide +kernel]; rfl
  | int b => show (kitB "int" "list").map PyData.bool = _; rw [show kitB "int" "list" = some false by decide +kernel]; rfl
  | str b => show (kitB "str" "list").map PyData.bool = _; rw [show kitB "str" "list" = some false by decide +kernel]; rfl
  | list b => show (kitB "list" "list").map PyData.bool = _; rw [show kitB "list" "list" = some true by decide +kernel]; rfl
  | tuple b => show (kitB "tuple" "list").map PyData.bool = _; rw [show kitB "tuple" "list" = some false by decide +kernel]; rfl
theorem isi_b {d : PyData} (h : noD d = true) : gIsi "bool" d = some (.bool (kB d)) := by
  cases d with
  | dict kvs => cases kvs with
    | nil => show (kitB "dict" "bool").map PyData.bool = _; rw [show kitB "dict" "bool" = some false by decide +kernel]; rfl
    | cons _ _ => cases h
  | none => show (kitB "NoneType" "bool").map PyData.bool = _; rw [show kitB "NoneType" "bool" = some false by decide +kernel]; rfl
  | bool b => show (kitB "bool" "bool").map PyData.bool = _; rw [show kitB "bool" "bool" = some true by decide +kernel]; rfl
  | int b => show (kitB "int" "bool").map PyData.bool = _; rw [show kitB "int" "bool" = some false by decide +kernel]; rfl
  | str b => show (kitB "str" "bool").map PyData.bool = _; rw [show kitB "str" "bool" = some false by decide +kernel]; rfl
  | list b => show (kitB "list" "bool").map PyData.bool = _; rw [show kitB "list" "bool" = some false by decide +kernel]; rfl
  | tuple b => show (kitB "tuple" "bool").map PyData.bool = _; rw [show kitB "tuple" "bool" = some false by decide +kernel]; rfl
theorem isi_i {d : PyData} (h : noD d = true) : gIsi "int" d = some (.bool (kI d)) := by
  cases d with
  | dict kvs => cases kvs with
    | nil => show (kitB "dict" "int").map PyData.bool = _; rw [show kitB "dict" "int" = some false by decide +kernel]; rfl
    | cons _ _ => cases h
  | none => show (kitB "NoneType" "int").map PyData.bool = _; rw [show kitB "NoneType" "int" = some false by decide +kernel]; rfl
  | bool b => show (kitB "bool" "int").map PyData.bool = _; rw [show kitB "bool" "int" = some true by decide +kernel]; rfl
  | int b => show (kitB "int" "int").map PyData.bool = _; rw [show kitB "int" "int" = some true by decide +kernel]; rfl
  | str b => show (kitB "str" "int").map PyData.bool = _; rw [show kitB "str" "int" = some false by decide +kernel]; rfl
  | list b => show (kitB "list" "int").map PyData.bool = _; rw [show kitB "list" "int" = some false by decide +kernel]; rfl
  | tuple b => show (kitB "tuple" "int").map PyData.bool = _; rw [show kitB "tuple" "int" = some false by decide +kernel]; rfl
/-- simple things: the parts of rows and pairs -/
def sP : PyData → Bool
  | .none => true
  | .bool _ => true
  | .int _ => true
  | .str z => okT z
  | .list [.str z] => okT z
  | _ => false
theorem sP_noD {d : PyData} (h : sP d = true) : noD d = true := by
  cases d with
  | dict kvs => cases h
  | _ => rfl
theorem sP_fit {d : PyData} (h : sP d = true) : Fit 1 d := by
  cases d with
  | none => exact fit_none 1
  | bool b => exact fit_bool 1 b
  | int i => exact fit_int 1 i
  | str z => exact fit_str 1 (Bool.and_eq_true_iff.mp h).1
  | list ds =>
    match ds, h with
    | [.str z], h => exact fit_list fun d m => by rw [List.mem_singleton.mp m]; exact fit_str 0 (Bool.and_eq_true_iff.mp (show okT z = true from h)).1
  | tuple _ => cases h
  | dict _ => cases h
theorem fgo_rt {G : PyData → PL.Env → Option PL.Env} {F : PL.Env → Option Out} {x : PyData} {xs : List PyData} {env e1 : PL.Env} {d : PyData} (h1 : G x env = some e1) (h2 : F e1 = some (.rt d)) : fGo G F (x :: xs) env = some (.rt d) := by
  unfold fGo
  rw [h1, Option.bind_some, h2]
  rfl
theorem name_loop (z : Str) : ∀ (l : List Nat) (s : Sl), ∃ s', fGo (tgN 1) (sIf (tE (e2 (gInS true) (eVarO 1) (eC (.str "abcdefghijklmnopqrstuvwxyz")))) (sRet (eC (.bool false))) sNext) (l.map fun c => .str ⟨#[c]⟩) [.sh (.str z), s] = some (if l.all okC = true then .nx [.sh (.str z), s'] else .rt (.bool false))
  | [], s => ⟨s, rfl⟩
  | c :: l, s => by
    have ht : tE (e2 (gInS true) (eVarO 1) (eC (.str "abcdefghijklmnopqrstuvwxyz"))) [.sh (.str z), .sh (.str ⟨#[c]⟩)] = some (!okC c) := te2_ev (x := .str ⟨#[c]⟩) (y := .str "abcdefghijklmnopqrstuvwxyz") rfl rfl (letter_ev c)
    cases hc : okC c with
    | true =>
      obtain ⟨s', e⟩ := name_loop z l (.sh (.str ⟨#[c]⟩))
      refine ⟨s', ?_⟩
      rw [List.map_cons, fgo_nx (e1 := [.sh (.str z), .sh (.str ⟨#[c]⟩)]) (e2 := [.sh (.str z), .sh (.str ⟨#[c]⟩)]) rfl (by rw [if_no (by rw [ht, hc]; rfl)]; rfl), e, List.all_cons, hc, Bool.true_and]
    | false =>
      refine ⟨s, ?_⟩
      rw [List.map_cons, fgo_rt (e1 := [.sh (.str z), .sh (.str ⟨#[c]⟩)]) (d := .bool false) rfl (by rw [if_yes (by rw [ht, hc]; rfl)]; rfl), List.all_cons, hc, Bool.false_and, if_neg Bool.false_ne_true]
theorem name_no {d : PyData} (h : gIsi "str" d = some (.bool false)) : f_is_name [d] = some (.bool false) ∧ f__law_name [d] = some (.bool false) := by
  constructor
  · unfold f_is_name fnD F_is_name
    have h0 : fEnv 2 [d] = [.sh d, .un] := rfl
    rw [h0, if_seq (tO_ev (y := true) (tN_ev (isi_ev (d := d) rfl h)) fun z => by cases z)]
    rfl
  · unfold f__law_name fnD F__law_name
    have h0 : fEnv 2 [d] = [.sh d, .un] := rfl
    rw [h0, if_seq (tO_ev (y := true) (tN_ev (isi_ev (d := d) rfl h)) fun z => by cases z)]
    rfl
theorem sz_ev (z : Str) (hz : z.length ≤ 1000) : tO (tN (tE (e1 (gIsi "str") (eVarO 0)))) (tO (tE (e2 (gB fun i j => decide (i < j)) (eA gLen (aCons (eVarO 0) aNil)) (eC (.int 1)))) (tE (e2 (gB fun i j => decide (j < i)) (eA gLen (aCons (eVarO 0) aNil)) (eC (.int 8))))) [.sh (.str z), .un] = some (!(decide (1 ≤ z.length) && decide (z.length ≤ 8))) := by
  have hl : eA gLen (aCons (eVarO 0) aNil) [.sh (.str z), .un] = some (.int (z.length : Int)) := lent_ev rfl (by omega)
  rw [tO_ev (tN_ev (isi_ev (d := .str z) (b := true) rfl (isi_s rfl))) fun _ => tO_ev (lt_ev hl rfl) fun _ => gt_ev hl rfl]
  congr 1
  rw [Bool.eq_iff_iff]
  simp
  omega
theorem e2v {g : PyData → PyData → Option PyData} {a b : PL.Env → Option PyData} {env : PL.Env} {x y z : PyData} (ha : a env = some x) (hb : b env = some y) (h : g x y = some z) : e2 g a b env = some z := by
  unfold e2
  rw [ha, Option.bind_some, hb, Option.bind_some, h]
def badC : PyData → Bool
  | .str x => (match x.cps.toList with
    | [c] => !okC c
    | _ => false)
  | _ => false
theorem name_str (z : Str) (h : okT z = true) : f_is_name [.str z] = some (.bool (okN z)) ∧ f__law_name [.str z] = some (.bool (okN z)) := by
  obtain ⟨h1, h2⟩ := Bool.and_eq_true_iff.mp h
  have hz := of_decide_eq_true h2
  have ht := sz_ev z hz
  have h0 : fEnv 2 [PyData.str z] = [.sh (.str z), .un] := rfl
  unfold okN
  constructor
  · unfold f_is_name fnD F_is_name
    rw [h0, if_seq ht]
    cases hb : (decide (1 ≤ z.length) && decide (z.length ≤ 8)) with
    | false => rfl
    | true =>
      rw [Bool.not_true, if_neg Bool.false_ne_true, next_seq, Bool.true_and]
      obtain ⟨s', e⟩ := name_loop z z.cps.toList .un
      have e' : sFor (iS (eVarO 0)) (tgN 1) (sIf (tE (e2 (gInS true) (eVarO 1) (eC (.str "abcdefghijklmnopqrstuvwxyz")))) (sRet (eC (.bool false))) sNext) [.sh (.str z), .un] = _ := e
      cases hl : z.cps.toList.all okC with
      | true =>
        rw [hl, if_pos rfl] at e'
        rw [seq_nx e']
        rfl
      | false =>
        rw [hl, if_neg Bool.false_ne_true] at e'
        rw [seq_rt e']
        rfl
  · unfold f__law_name fnD F__law_name
    rw [h0, if_seq ht]
    cases hb : (decide (1 ≤ z.length) && decide (z.length ≤ 8)) with
    | false => rfl
    | true =>
      rw [Bool.not_true, if_neg Bool.false_ne_true, next_seq, Bool.true_and]
      have hw : nLc (iS (eVarO 0)) (tgN 1) (tE (e2 (gInS true) (eVarO 1) (eC (.str "abcdefghijklmnopqrstuvwxyz")))) (eVar 1) [1] [.sh (.str z), .un] = some ((z.cps.toList.map fun c => PyData.str ⟨#[c]⟩).filter badC) := by
        have hi : iS (eVarO 0) [.sh (.str z), .un] = some (z.cps.toList.map fun c => .str ⟨#[c]⟩) := rfl
        unfold nLc
        rw [hi, Option.bind_some, if_pos (by rw [List.length_map]; have : z.cps.toList.length = z.length := by simp [Str.length]
                                             omega)]
        have g := lc_gen (G := tgN 1) (t := tE (e2 (gInS true) (eVarO 1) (eC (.str "abcdefghijklmnopqrstuvwxyz")))) (f := eVar 1) (env := wipeE [.sh (.str z), .un] [1]) (fun d => [.sh (.str z), .sh d]) badC (fun d => d) (z.cps.toList.map fun c => PyData.str ⟨#[c]⟩) (fun _ _ => rfl) (fun d m => by
          obtain ⟨c, _, rfl⟩ := List.mem_map.mp m
          exact te2_ev (x := .str ⟨#[c]⟩) (y := .str "abcdefghijklmnopqrstuvwxyz") rfl rfl (letter_ev c)) (fun _ _ _ => rfl)
        rw [List.map_id'] at g
        exact g
      have hF : (z.cps.toList.map fun c => PyData.str ⟨#[c]⟩).filter badC = (z.cps.toList.filter fun c => !okC c).map fun c => PyData.str ⟨#[c]⟩ := by
        rw [List.filter_map]
        rfl
      rw [hF] at hw
      have hsh : SeqAt.shaped (.list ((z.cps.toList.filter fun c => !okC c).map fun c => PyData.str ⟨#[c]⟩)) = true := (fit_list (n := 0) fun d m => by
        obtain ⟨c, mc, rfl⟩ := List.mem_map.mp m
        have mz : c ∈ z.cps.toList := (List.mem_filter.mp mc).1
        refine fit_str 0 ?_
        unfold PyData.strOk at h1 ⊢
        have := Array.all_eq_true_iff_forall_mem.mp h1 c (by simpa using mz)
        simpa using this).sh (by decide)
      have hq : e2 gEq (eL (nLc (iS (eVarO 0)) (tgN 1) (tE (e2 (gInS true) (eVarO 1) (eC (.str "abcdefghijklmnopqrstuvwxyz")))) (eVar 1) [1])) (eL (nLst aNil)) [.sh (.str z), .un] = some (.bool (z.cps.toList.all okC)) := by
        refine e2v (eL_ev hw) (lst_ev anil_ev (by show 0 ≤ 100000; omega)) ?_
        unfold gEq
        rw [hsh, show SeqAt.shaped (.list []) = true by decide +kernel, Bool.and_self, if_pos rfl]
        congr 2
        cases hf : z.cps.toList.filter fun c => !okC c with
        | nil =>
          have : z.cps.toList.all okC = true := List.all_eq_true.mpr fun c m => by
            cases hc : okC c with
            | true => rfl
            | false =>
              have : c ∈ z.cps.toList.filter fun c => !okC c := List.mem_filter.mpr ⟨m, by rw [hc]; rfl⟩
              rw [hf] at this
              cases this
          rw [this]
          rfl
        | cons c r =>
          have m : c ∈ z.cps.toList.filter fun c => !okC c := by rw [hf]; exact List.mem_cons_self ..
          obtain ⟨m1, m2⟩ := List.mem_filter.mp m
          have : z.cps.toList.all okC = false := by
            cases ha : z.cps.toList.all okC with
            | false => rfl
            | true =>
              rw [List.all_eq_true.mp ha c m1] at m2
              cases m2
          rw [this]
          rfl
      rw [rt1_ev hq]
      rfl
theorem m_name {d : PyData} (h : sP d = true) : f_is_name [d] = some (.bool (isN d)) ∧ f__law_name [d] = some (.bool (isN d)) := by
  cases d with
  | str z => exact name_str z h
  | dict _ => cases h
  | none => exact name_no (isi_s rfl)
  | bool b => exact name_no (isi_s rfl)
  | int b => exact name_no (isi_s rfl)
  | list b => exact name_no (isi_s rfl)
  | tuple b => cases h
end K01
namespace K01
open PX PySem L2 PySem.Spec PyProof.Rows PL PR
/-! Numbers, parts, rows: what the program's checks answer of any simple thing. -/
theorem nei_ev {a b : PL.Env → Option PyData} {env : PL.Env} {i j : Int} (ha : a env = some (.int i)) (hb : b env = some (.int j)) : tE (e2 gNe a b) env = some (!decide (i = j)) := by
  unfold tE e2
  rw [ha, Option.bind_some, hb, Option.bind_some]
  have h := eqiv_ev (a := fun _ => some (.int i)) (b := fun _ => some (.int j)) (env := env) (i := i) (j := j) rfl rfl
  have h2 : some (PyData.bool (PyData.eqv (.int i) (.int j))) = some (PyData.bool (decide (i = j))) := h
  have h3 : PyData.eqv (.int i) (.int j) = decide (i = j) := PyData.bool.inj (Option.some.inj h2)
  show some (!PyData.eqv (.int i) (.int j)) = _
  rw [h3]
def isW (lo hi : Int) : PyData → Bool
  | .int i => decide (lo ≤ i) && decide (i ≤ hi)
  | _ => false
def inN (l : List Str) : PyData → Bool
  | .str z => decide (z ∈ l)
  | _ => false
theorem le_ev {a b : PL.Env → Option PyData} {env : PL.Env} {i j : Int} (ha : a env = some (.int i)) (hb : b env = some (.int j)) : e2 (gB fun i j => decide (i ≤ j)) a b env = some (.bool (decide (i ≤ j))) := e2v ha hb rfl
theorem m_is_number {d : PyData} (h : noD d = true) : f_is_number [d] = some (.bool (kI d && !kB d)) := by
  unfold f_is_number fnD F_is_number
  have h0 : fEnv 1 [d] = [.sh d] := rfl
  rw [h0, rt1_ev (andb_ev (isi_ev (d := d) rfl (isi_i h)) fun _ => by unfold eNotB; rw [tN_ev (isi_ev (d := d) rfl (isi_b h))]; rfl)]
  rfl
theorem m_lwhole {d : PyData} (h : noD d = true) : f__law_whole [d] = some (.bool (kI d && !kB d)) := by
  unfold f__law_whole fnD F__law_whole
  have h0 : fEnv 1 [d] = [.sh d] := rfl
  rw [h0, rt1_ev (andb_ev (isi_ev (d := d) rfl (isi_i h)) fun _ => by unfold eNotB; rw [tN_ev (isi_ev (d := d) rfl (isi_b h))]; rfl)]
  rfl
theorem isW_no {lo hi : Int} {d : PyData} (h : (kI d && !kB d) = false) : isW lo hi d = false := by
  cases d with
  | int i => cases h
  | _ => rfl
theorem m_is_whole {d : PyData} (h : noD d = true) (lo hi : Int) : f_is_whole [d, .int lo, .int hi] = some (.bool (isW lo hi d)) := by
  unfold f_is_whole fnD F_is_whole
  have h0 : fEnv 3 [d, .int lo, .int hi] = [.sh d, .sh (.int lo), .sh (.int hi)] := rfl
  cases hk : (kI d && !kB d) with
  | false =>
    rw [h0, rt1_ev (andb_ev (x := false) (y := false) (vt_ev (call1_ev (x := d) rfl ((m_is_number h).trans (by rw [hk])))) fun z => by cases z), isW_no hk]
    rfl
  | true =>
    cases d with
    | int i =>
      rw [h0, rt1_ev (andb_ev (x := true) (vt_ev (call1_ev (x := .int i) rfl ((m_is_number h).trans (by rw [hk])))) fun _ => (andb_ev (x := decide (lo ≤ i)) (y := decide (i ≤ hi)) (vt_ev (le_ev rfl rfl)) fun _ => le_ev rfl rfl))]
      rfl
    | none => cases hk
    | bool b => cases hk
    | str b => cases hk
    | list b => cases hk
    | tuple b => cases hk
    | dict b => cases b <;> cases hk
theorem in_part {neg : Bool} {d : PyData} {l : List Str} (h : sP d = true) (hl : ∀ y ∈ l, PyData.strOk y = true) : gInL neg d (.list (l.map PyData.str)) = some (.bool (if neg then !inN l d else inN l d)) := by
  have no : (∀ y : Str, PyData.eqv (.str y) d = false) → inN l d = false → gInL neg d (.list (l.map PyData.str)) = some (.bool (if neg then !inN l d else inN l d)) := fun e1 e2 => by
    have h1 : SeqAt.shaped (.list (l.map PyData.str)) = true := (fit_list (n := 0) fun d m => by
      obtain ⟨y, my, rfl⟩ := List.mem_map.mp m
      exact fit_str 0 (hl y my)).sh (by decide)
    have h2 : SeqAt.shaped d = true := (sP_fit h).sh (by decide)
    have h3 : ((l.map PyData.str).any fun z => PyData.eqv z d) = false := by
      rw [List.any_map]
      exact List.any_eq_false.mpr fun y _ => by show ¬ PyData.eqv (.str y) d = true; rw [e1 y]; exact Bool.false_ne_true
    show (if SeqAt.shaped d && SeqAt.shaped (.list (l.map PyData.str)) then some (PyData.bool (if neg then !(l.map PyData.str).any fun z => PyData.eqv z d else (l.map PyData.str).any fun z => PyData.eqv z d)) else none) = _
    rw [h1, h2, h3, e2]
    rfl
  cases d with
  | str z => exact in_strs (Bool.and_eq_true_iff.mp (show okT z = true from h)).1 hl
  | none => exact no (fun _ => rfl) rfl
  | bool b => exact no (fun _ => rfl) rfl
  | int b => exact no (fun _ => rfl) rfl
  | list b => exact no (fun _ => rfl) rfl
  | tuple b => cases h
  | dict b => cases h
theorem ins_part {neg : Bool} {a b : PL.Env → Option PyData} {env : PL.Env} {d : PyData} {l : List Str} (ha : a env = some d) (hb : b env = some (.list (l.map PyData.str))) (h : sP d = true) (hl : ∀ y ∈ l, PyData.strOk y = true) : e2 (gInL neg) a b env = some (.bool (if neg then !inN l d else inN l d)) := e2v ha hb (in_part h hl)
def goodPart (names : List Str) (last : Int) (kind : Str) (d : PyData) : Bool :=
  if kind = "plot" then inN names d else if kind = "name" then isN d else if kind = "number" then isW (-1000000000000000000) 1000000000000000000 d else isW 0 last d
abbrev partE (d : PyData) (kind : Str) (names : List Str) (last : Int) : PL.Env := [.sh d, .sh (.str kind), .sh (.list (names.map PyData.str)), .sh (.int last)]
theorem m_is_part {d : PyData} (h : sP d = true) (kind : Str) (hk : PyData.strOk kind = true) (names : List Str) (hn : ∀ y ∈ names, PyData.strOk y = true) (last : Int) : f_is_part [d, .str kind, .list (names.map PyData.str), .int last] = some (.bool (goodPart names last kind d)) := by
  have kind_ev : ∀ z : Str, PyData.strOk z = true → tE (e2 gEq (eVarO 1) (eC (.str z))) (partE d kind names last) = some (decide (kind = z)) := fun z hz => eqz_ev rfl rfl hk hz
  unfold f_is_part fnD F_is_part
  have h0 : fEnv 4 [d, .str kind, .list (names.map PyData.str), .int last] = partE d kind names last := rfl
  unfold goodPart
  rw [h0, if_seq (kind_ev "plot" (by decide +kernel))]
  by_cases k1 : kind = "plot"
  · rw [decide_eq_true k1, if_pos rfl, if_pos k1, rt_ev (ins_part (neg := false) rfl rfl h hn)]
    rfl
  · rw [decide_eq_false k1, if_neg Bool.false_ne_true, if_neg k1, next_seq, if_seq (kind_ev "name" (by decide +kernel))]
    by_cases k2 : kind = "name"
    · rw [decide_eq_true k2, if_pos rfl, if_pos k2, rt_ev (call1_ev (x := d) rfl (m_name h).1)]
      rfl
    · rw [decide_eq_false k2, if_neg Bool.false_ne_true, if_neg k2, next_seq, if_seq (kind_ev "number" (by decide +kernel))]
      by_cases k3 : kind = "number"
      · rw [decide_eq_true k3, if_pos rfl, if_pos k3, rt_ev (call3_ev (x := d) rfl (y := .int (-1000000000000000000)) rfl (u := .int 1000000000000000000) rfl (m_is_whole (sP_noD h) _ _))]
        rfl
      · rw [decide_eq_false k3, if_neg Bool.false_ne_true, if_neg k3, next_seq, rt1_ev (call3_ev (x := d) rfl (y := .int 0) rfl (u := .int last) rfl (m_is_whole (sP_noD h) _ _))]
        rfl
/-! ### rows -/
def goodParts (names : List Str) (last : Int) : List PyData → List Str → Bool
  | p :: ps, k :: ks => goodPart names last k p && goodParts names last ps ks
  | _, _ => true
def goodRow (names : List Str) (last : Int) : PyData → Bool
  | .tuple (.str w :: ps) => (match lookT tab_SHAPES w with
    | some ks => decide (ps.length = ks.length) && goodParts names last ps ks
    | none => false)
  | _ => false
/-- heads of rows -/
def sH : PyData → Bool
  | .str w => (lookT tab_SHAPES w).isSome || decide (w = "hop")
  | d => noD d
/-- rows of simple parts -/
def sR : PyData → Bool
  | .tuple [] => true
  | .tuple (h :: ps) => (sH h && ps.all sP) && decide (ps.length ≤ 100)
  | d => noD d
theorem sH_noD {d : PyData} (h : sH d = true) : noD d = true := by
  cases d with
  | str _ => rfl
  | dict kvs => exact h
  | _ => rfl
theorem kinds_ok {w : Str} {ks : List Str} (h : lookT tab_SHAPES w = some ks) : ∀ k ∈ ks, PyData.strOk k = true := by
  unfold lookT at h
  rw [Option.map_eq_some_iff] at h
  obtain ⟨q, hq, rfl⟩ := h
  have m := List.mem_of_find?_eq_some hq
  have : ∀ q ∈ tab_SHAPES, ∀ k ∈ q.2, PyData.strOk k = true := by decide +kernel
  exact this q m
abbrev rowE (d : PyData) (names : List Str) (last : Int) (s3 s4 s5 s6 : Sl) : PL.Env := [.sh d, .sh (.list (names.map PyData.str)), .sh (.int last), s3, s4, s5, s6]
theorem lent_tup {f : PL.Env → Option PyData} {env : PL.Env} {ds : List PyData} (h : f env = some (.tuple ds)) : eA gLen (aCons f aNil) env = some (.int (ds.length : Int)) := by
  unfold eA aCons aNil
  simp only [h, Option.bind_some, Option.map_some]
  rfl
theorem parts_loop (d : PyData) (names : List Str) (hn : ∀ y ∈ names, PyData.strOk y = true) (last : Int) : ∀ (parts : List PyData) (kinds : List Str) (s3 s4 s5 s6 : Sl), parts.all sP = true → (∀ k ∈ kinds, PyData.strOk k = true) →
    ∃ s5' s6', fGo (tgT 2 (tgCons (tgN 5) (tgCons (tgN 6) tgNil))) (sIf (tN (tE (eA (fun ds => if ds.length = 4 then f_is_part ds else none) (aCons (eVar 5) (aCons (eVar 6) (aCons (eVar 1) (aCons (eVar 2) aNil))))))) (sRet (eC (.bool false))) sNext) (zipD parts (kinds.map PyData.str)) (rowE d names last s3 s4 s5 s6) = some (if goodParts names last parts kinds = true then .nx (rowE d names last s3 s4 s5' s6') else .rt (.bool false))
  | [], [], _, _, s5, s6, _, _ => ⟨s5, s6, rfl⟩
  | [], _ :: _, _, _, s5, s6, _, _ => ⟨s5, s6, rfl⟩
  | _ :: _, [], _, _, s5, s6, _, _ => ⟨s5, s6, rfl⟩
  | p :: parts, k :: kinds, s3, s4, s5, s6, h, hk => by
    rw [List.all_cons, Bool.and_eq_true] at h
    have ht : tN (tE (eA (fun ds => if ds.length = 4 then f_is_part ds else none) (aCons (eVar 5) (aCons (eVar 6) (aCons (eVar 1) (aCons (eVar 2) aNil)))))) (rowE d names last s3 s4 (.sh p) (.sh (.str k))) = some (!goodPart names last k p) :=
      tN_ev (vt_ev (call4_ev (x := p) rfl (y := .str k) rfl (u := .list (names.map PyData.str)) rfl (v := .int last) rfl (m_is_part h.1 k (hk k (List.mem_cons_self ..)) names hn last)))
    obtain ⟨a, b, e⟩ := parts_loop d names hn last parts kinds s3 s4 (.sh p) (.sh (.str k)) h.2 fun k' m => hk k' (List.mem_cons_of_mem _ m)
    refine ⟨a, b, ?_⟩
    show fGo _ _ (.tuple [p, .str k] :: zipD parts (kinds.map PyData.str)) _ = _
    unfold goodParts
    cases hg : goodPart names last k p with
    | true =>
      rw [Bool.true_and]
      exact (fgo_nx (e1 := rowE d names last s3 s4 (.sh p) (.sh (.str k))) (e2 := rowE d names last s3 s4 (.sh p) (.sh (.str k))) rfl (by rw [if_no (by rw [ht, hg]; rfl)]; rfl)).trans e
    | false =>
      rw [Bool.false_and, if_neg Bool.false_ne_true]
      exact fgo_rt (e1 := rowE d names last s3 s4 (.sh p) (.sh (.str k))) rfl (by rw [if_yes (by rw [ht, hg]; rfl)]; rfl)
theorem m_is_row {d : PyData} (h : sR d = true) (names : List Str) (hn : ∀ y ∈ names, PyData.strOk y = true) (last : Int) : f_is_row [d, .list (names.map PyData.str), .int last] = some (.bool (goodRow names last d)) := by
  unfold f_is_row fnD F_is_row
  have h0 : fEnv 7 [d, .list (names.map PyData.str), .int last] = rowE d names last .un .un .un .un := rfl
  rw [h0]
  have no : noD d = true → kT d = false → sSeq (sIf (tO (tN (tE (e1 (gIsi "tuple") (eVarO 0)))) (tE (e2 gEq (eA gLen (aCons (eVarO 0) aNil)) (eC (.int 0))))) (sRet (eC (.bool false))) sNext) (sSeq (sAsg (e2 gIx (eVarO 0) (eC (.int 0))) (tgN 3))
    (sSeq (sIf (tO (tN (tE (e1 (gIsi "str") (eVarO 3)))) (tE (eNotTabM tab_SHAPES miss_SHAPES (eVarO 3)))) (sRet (eC (.bool false))) sNext)
    (sSeq (sAsg (eTab tab_SHAPES (eVarO 3)) (tgN 4))
    (sSeq (sIf (tE (e2 gNe (eA gLen (aCons (eVarO 0) aNil)) (e2 gAdd (eA gLen (aCons (eVarO 4) aNil)) (eC (.int 1))))) (sRet (eC (.bool false))) sNext)
    (sSeq (sFor (iZt (aCons (eSlT (eVarO 0) (oSome (eC (.int 1))) oNone) (aCons (eVar 4) aNil))) (tgT 2 (tgCons (tgN 5) (tgCons (tgN 6) tgNil))) (sIf (tN (tE (eA (fun ds => if ds.length = 4 then f_is_part ds else none) (aCons (eVar 5) (aCons (eVar 6) (aCons (eVar 1) (aCons (eVar 2) aNil))))))) (sRet (eC (.bool false))) sNext))
    (sRet (eC (.bool true)))))))) (rowE d names last .un .un .un .un) = some (.rt (.bool false)) := fun h1 h2 => by
    rw [if_seq (tO_ev (x := true) (y := true) ((tN_ev (isi_ev (d := d) rfl (isi_t h1))).trans (by rw [h2]; rfl)) fun z => by cases z)]
    rfl
  match d, h with
  | .none, h => rw [no rfl rfl]; rfl
  | .bool b, h => rw [no rfl rfl]; rfl
  | .int b, h => rw [no rfl rfl]; rfl
  | .str b, h => rw [no rfl rfl]; rfl
  | .list b, h => rw [no rfl rfl]; rfl
  | .dict b, h => rw [no h rfl]; rfl
  | .tuple [], h =>
    rw [if_seq (tO_ev (x := false) (y := true) (tN_ev (isi_ev (d := .tuple []) (b := true) rfl (isi_t rfl))) fun _ => (eqi_ev (i := (([] : List PyData).length : Int)) (j := 0) (lent_tup rfl) rfl).trans rfl)]
    rfl
  | .tuple (w :: ps), h =>
    obtain ⟨h12, h3⟩ := Bool.and_eq_true_iff.mp (show ((sH w && ps.all sP) && decide (ps.length ≤ 100)) = true from h)
    obtain ⟨h1, h2⟩ := Bool.and_eq_true_iff.mp h12
    have h4 := of_decide_eq_true h3
    have t1 : tO (tN (tE (e1 (gIsi "tuple") (eVarO 0)))) (tE (e2 gEq (eA gLen (aCons (eVarO 0) aNil)) (eC (.int 0)))) (rowE (.tuple (w :: ps)) names last .un .un .un .un) = some false := by
      rw [tO_ev (tN_ev (isi_ev (d := .tuple (w :: ps)) (b := true) rfl (isi_t rfl))) fun _ => eqi_ev (lent_tup rfl) rfl, decide_eq_false (by rw [List.length_cons]; omega)]
      rfl
    rw [if_seq t1, if_neg Bool.false_ne_true, next_seq, seq_asg (ixt_ev (d := w) (i := ((0 : Nat) : Int)) rfl rfl (atI_nat' (n := 0) rfl))]
    dsimp only [List.set]
    have hs := isi_s (sH_noD h1)
    cases hw : kS w with
    | false =>
      rw [if_seq (tO_ev (x := true) (y := true) ((tN_ev (isi_ev (d := w) rfl hs)).trans (by rw [hw]; rfl)) fun z => by cases z)]
      cases w with
      | str _ => cases hw
      | _ => rfl
    | true =>
      match w, hw, h1, hs with
      | .str w, _, h1, hs =>
        have t2 : tO (tN (tE (e1 (gIsi "str") (eVarO 3)))) (tE (eNotTabM tab_SHAPES miss_SHAPES (eVarO 3))) (rowE (.tuple (.str w :: ps)) names last (.sh (.str w)) .un .un .un) = some (lookT tab_SHAPES w).isNone := by
          refine (tO_ev (x := false) (y := (lookT tab_SHAPES w).isNone) (tN_ev (isi_ev (d := .str w) (b := true) rfl hs)) fun _ => vt_ev ?_).trans rfl
          show (match lookT tab_SHAPES w with | some _ => some (PyData.bool false) | none => if w ∈ miss_SHAPES then some (.bool true) else none) = _
          cases hk : lookT tab_SHAPES w with
          | some ks => rfl
          | none =>
            have : w = "hop" := by
              have h1' : ((lookT tab_SHAPES w).isSome || decide (w = "hop")) = true := h1
              rw [hk] at h1'
              exact of_decide_eq_true (by simpa using h1')
            rw [this]
            rfl
        rw [if_seq t2]
        have hG : ∀ o, lookT tab_SHAPES w = o → goodRow names last (.tuple (.str w :: ps)) = (match o with
          | some ks => decide (ps.length = ks.length) && goodParts names last ps ks
          | none => false) := fun o e => by rw [← e]; rfl
        cases hk : lookT tab_SHAPES w with
        | none => rw [hG _ hk]; rfl
        | some kinds =>
          rw [hG _ hk]
          dsimp only
          have e4 : eTab tab_SHAPES (eVarO 3) (rowE (.tuple (.str w :: ps)) names last (.sh (.str w)) .un .un .un) = some (.tuple (kinds.map PyData.str)) := by
            show (lookT tab_SHAPES w).map (fun ks => PyData.tuple (ks.map PyData.str)) = _
            rw [hk]
            rfl
          rw [show (Option.isNone (some kinds)) = false from rfl, if_neg Bool.false_ne_true, next_seq, seq_asg e4]
          dsimp only [List.set]
          have t3 : tE (e2 gNe (eA gLen (aCons (eVarO 0) aNil)) (e2 gAdd (eA gLen (aCons (eVarO 4) aNil)) (eC (.int 1)))) (rowE (.tuple (.str w :: ps)) names last (.sh (.str w)) (.sh (.tuple (kinds.map PyData.str))) .un .un) = some (!decide (ps.length = kinds.length)) := by
            rw [nei_ev (lent_tup rfl) (add_ev (lent_tup (ds := kinds.map PyData.str) rfl) rfl), List.length_cons, List.length_map]
            congr 2
            exact decide_eq_decide.mpr (by omega)
          rw [if_seq t3]
          cases hl : decide (ps.length = kinds.length) with
          | false => rfl
          | true =>
            rw [Bool.not_true, if_neg Bool.false_ne_true, next_seq, Bool.true_and]
            have hz : iZt (aCons (eSlT (eVarO 0) (oSome (eC (.int 1))) oNone) (aCons (eVar 4) aNil)) (rowE (.tuple (.str w :: ps)) names last (.sh (.str w)) (.sh (.tuple (kinds.map PyData.str))) .un .un) = some (zipD ps (kinds.map PyData.str)) := by
              show some (zipD (PL.cutD (.str w :: ps) (some ((1 : Nat) : Int)) none) (kinds.map PyData.str)) = _
              rw [cutD_from]
              rfl
            obtain ⟨a, b, e⟩ := parts_loop (.tuple (.str w :: ps)) names hn last ps kinds (.sh (.str w)) (.sh (.tuple (kinds.map PyData.str))) .un .un h2 (kinds_ok hk)
            have e' := (show ∀ F, sFor (iZt (aCons (eSlT (eVarO 0) (oSome (eC (.int 1))) oNone) (aCons (eVar 4) aNil))) (tgT 2 (tgCons (tgN 5) (tgCons (tgN 6) tgNil))) F (rowE (.tuple (.str w :: ps)) names last (.sh (.str w)) (.sh (.tuple (kinds.map PyData.str))) .un .un) = fGo (tgT 2 (tgCons (tgN 5) (tgCons (tgN 6) tgNil))) F (zipD ps (kinds.map PyData.str)) (rowE (.tuple (.str w :: ps)) names last (.sh (.str w)) (.sh (.tuple (kinds.map PyData.str))) .un .un) from fun F => by unfold sFor; rw [hz, Option.bind_some]) _ |>.trans e
            cases hg : goodParts names last ps kinds with
            | true =>
              rw [hg, if_pos rfl] at e'
              rw [seq_nx e']
              rfl
            | false =>
              rw [hg, if_neg Bool.false_ne_true] at e'
              rw [seq_rt e']
              rfl
end K01
namespace K01
open PX PySem L2 PySem.Spec PyProof.Rows PL PR
/-! _law_good_row: what it answers of any row of simple parts. -/
def formsK : List (PyData × PyData) := kvP ((["open", "lay", "copy", "same", "add", "tell", "give"] : List Str) ++ (["fork", "go", "end"] : List Str)) (([.str "p", .str "npw", .str "nnp", .str "nn", .str "nn", .str "n", .str "p"] : List PyData) ++ ([.str "a", .str "a", .str ""] : List PyData))
def letK (k : Str) : Str := if k = "plot" then "p" else if k = "name" then "n" else if k = "number" then "w" else "a"
def kinds4 : List Str := ["plot", "name", "number", "place"]
theorem form_of {w : Str} {ks : List Str} (h : lookT tab_SHAPES w = some ks) : ∃ z : Str, lookP formsK w = some (.str z) ∧ z.cps.all (· < 128) = true ∧ (z.cps.toList.map fun c => PyData.str ⟨#[c]⟩) = ks.map (fun k => PyData.str (letK k)) ∧ z.length = ks.length ∧ ∀ k ∈ ks, k ∈ kinds4 := by
  unfold lookT at h
  rw [Option.map_eq_some_iff] at h
  obtain ⟨q, hq, rfl⟩ := h
  have m := List.mem_of_find?_eq_some hq
  have hw0 : decide (q.1 = w) = true := List.find?_some (p := fun q : Str × List Str => decide (q.1 = w)) hq
  have hw : q.1 = w := of_decide_eq_true hw0
  clear hw0
  subst hw
  clear hq
  simp only [tab_SHAPES, List.mem_cons, List.not_mem_nil, or_false] at m
  rcases m with rfl | rfl | rfl | rfl | rfl | rfl | rfl | rfl | rfl | rfl
  · exact ⟨"p", by kernel_rfl, by decide +kernel, by kernel_rfl, by decide +kernel, by decide +kernel⟩
  · exact ⟨"npw", by kernel_rfl, by decide +kernel, by kernel_rfl, by decide +kernel, by decide +kernel⟩
  · exact ⟨"nnp", by kernel_rfl, by decide +kernel, by kernel_rfl, by decide +kernel, by decide +kernel⟩
  · exact ⟨"nn", by kernel_rfl, by decide +kernel, by kernel_rfl, by decide +kernel, by decide +kernel⟩
  · exact ⟨"nn", by kernel_rfl, by decide +kernel, by kernel_rfl, by decide +kernel, by decide +kernel⟩
  · exact ⟨"n", by kernel_rfl, by decide +kernel, by kernel_rfl, by decide +kernel, by decide +kernel⟩
  · exact ⟨"p", by kernel_rfl, by decide +kernel, by kernel_rfl, by decide +kernel, by decide +kernel⟩
  · exact ⟨"a", by kernel_rfl, by decide +kernel, by kernel_rfl, by decide +kernel, by decide +kernel⟩
  · exact ⟨"a", by kernel_rfl, by decide +kernel, by kernel_rfl, by decide +kernel, by decide +kernel⟩
  · exact ⟨"", by kernel_rfl, by decide +kernel, by kernel_rfl, by decide +kernel, by decide +kernel⟩
theorem forms_keys : formsK.all isKS = true := by kernel_rfl
theorem no_hop : lookP formsK "hop" = none := by kernel_rfl
abbrev goE (d : PyData) (known : List Str) (size : Int) (s4 s5 : Sl) : PL.Env := [.sh d, .sh (.list (known.map PyData.str)), .sh (.int size), .sh (.dict formsK), s4, s5]
abbrev goT : PL.Env → Option Out := (sSeq (sIf (tA (tE (e2 gEq (eVarO 4) (eC (.str "n")))) (tN (tE (eA (fun ds => if ds.length = 1 then f__law_name ds else none) (aCons (eVar 5) aNil))))) (sRet (eC (.bool false))) sNext)
    (sSeq (sIf (tA (tE (e2 gEq (eVarO 4) (eC (.str "p")))) (tO (tN (tE (eA (fun ds => if ds.length = 1 then f__law_name ds else none) (aCons (eVar 5) aNil)))) (tE (e2 (gInL true) (eVarO 5) (eVarO 1))))) (sRet (eC (.bool false))) sNext)
    (sSeq (sIf (tA (tE (e2 gEq (eVarO 4) (eC (.str "w")))) (tO (tN (tE (eA (fun ds => if ds.length = 1 then f__law_whole ds else none) (aCons (eVar 5) aNil)))) (tE (e2 (gB fun i j => decide (j < i)) (eA gAbs (aCons (eVarO 5) aNil)) (eC (.int 1000000000000000000)))))) (sRet (eC (.bool false))) sNext)
    (sIf (tA (tE (e2 gEq (eVarO 4) (eC (.str "a")))) (tO (tN (tE (eA (fun ds => if ds.length = 1 then f__law_whole ds else none) (aCons (eVar 5) aNil)))) (tO (tE (e2 (gB fun i j => decide (i < j)) (eVarO 5) (eC (.int 0)))) (tE (e2 (gB fun i j => decide (j < i)) (eVarO 5) (eVarO 2)))))) (sRet (eC (.bool false))) sNext))))
theorem tA_no {a b : PL.Env → Option Bool} {env : PL.Env} (h : a env = some false) : tA a b env = some false := by
  unfold tA
  rw [h]
  rfl
theorem tA_yes {a b : PL.Env → Option Bool} {env : PL.Env} {y : Bool} (h : a env = some true) (hb : b env = some y) : tA a b env = some y := by
  unfold tA
  rw [h, Option.bind_some, if_pos rfl, hb]
theorem inN_isN {l : List Str} (hl : ∀ y ∈ l, okN y = true) {d : PyData} (h : inN l d = true) : isN d = true := by
  cases d with
  | str z => exact hl z (of_decide_eq_true h)
  | _ => cases h
theorem abs_int {f : PL.Env → Option PyData} {env : PL.Env} {i : Int} (h : f env = some (.int i)) : eA gAbs (aCons f aNil) env = some (.int (if i < 0 then -i else i)) := by
  unfold eA
  rw [acons_ev h anil_ev]
  rfl
theorem whole_cases {d : PyData} (h : (kI d && !kB d) = true) : ∃ i, d = .int i := by
  cases d with
  | int i => exact ⟨i, rfl⟩
  | bool b => cases h
  | none => cases h
  | str _ => cases h
  | list _ => cases h
  | tuple _ => cases h
  | dict _ => cases h
theorem turn_good (d : PyData) (known : List Str) (hn : ∀ y ∈ known, PyData.strOk y = true) (hk : ∀ y ∈ known, okN y = true) (size : Int) {k : Str} (mk : k ∈ kinds4) {p : PyData} (hp : sP p = true) :
    goT (goE d known size (.sh (.str (letK k))) (.sh p)) = some (if goodPart known size k p = true then .nx (goE d known size (.sh (.str (letK k))) (.sh p)) else .rt (.bool false)) := by
  have hnm : tN (tE (eA (fun ds => if ds.length = 1 then f__law_name ds else none) (aCons (eVar 5) aNil))) (goE d known size (.sh (.str (letK k))) (.sh p)) = some (!isN p) := tN_ev (vt_ev (call1_ev (x := p) rfl (m_name hp).2))
  have hwh : tN (tE (eA (fun ds => if ds.length = 1 then f__law_whole ds else none) (aCons (eVar 5) aNil))) (goE d known size (.sh (.str (letK k))) (.sh p)) = some (!(kI p && !kB p)) := tN_ev (vt_ev (call1_ev (x := p) rfl (m_lwhole (sP_noD hp))))
  have hls : PyData.strOk (letK k) = true := by
    simp only [kinds4, List.mem_cons, List.not_mem_nil, or_false] at mk
    rcases mk with rfl | rfl | rfl | rfl <;> decide +kernel
  have he : ∀ z : Str, PyData.strOk z = true → tE (e2 gEq (eVarO 4) (eC (.str z))) (goE d known size (.sh (.str (letK k))) (.sh p)) = some (decide (letK k = z)) := fun z hz => eqz_ev rfl rfl hls hz
  have e1 := he "n" (by decide +kernel)
  have e2' := he "p" (by decide +kernel)
  have e3 := he "w" (by decide +kernel)
  have e4 := he "a" (by decide +kernel)
  clear he
  simp only [kinds4, List.mem_cons, List.not_mem_nil, or_false] at mk
  rcases mk with rfl | rfl | rfl | rfl
  · rw [show decide (letK "plot" = "n") = false by decide +kernel] at e1
    rw [show decide (letK "plot" = "p") = true by decide +kernel] at e2'
    rw [show decide (letK "plot" = "w") = false by decide +kernel] at e3
    rw [show decide (letK "plot" = "a") = false by decide +kernel] at e4
    have hg : goodPart known size "plot" p = inN known p := if_pos rfl
    rw [hg]
    have t2 := tA_yes e2' (tO_ev (b := tE (e2 (gInL true) (eVarO 5) (eVarO 1))) (y := !inN known p) hnm fun _ => vt_ev (ins_part (neg := true) rfl rfl hp hn))
    have hv : ((!isN p) || !inN known p) = !inN known p := by
      cases hi : inN known p with
      | false => rw [Bool.not_false, Bool.or_true]
      | true => rw [inN_isN hk hi]; rfl
    rw [hv] at t2
    show sSeq (sIf _ _ _) _ _ = _
    rw [if_seq (tA_no e1), if_neg Bool.false_ne_true, next_seq, if_seq t2]
    cases inN known p with
    | false => rfl
    | true => rw [Bool.not_true, if_neg Bool.false_ne_true, next_seq, if_seq (tA_no e3), if_neg Bool.false_ne_true, next_seq, if_no (tA_no e4)]; rfl
  · rw [show decide (letK "name" = "n") = true by decide +kernel] at e1
    rw [show decide (letK "name" = "p") = false by decide +kernel] at e2'
    rw [show decide (letK "name" = "w") = false by decide +kernel] at e3
    rw [show decide (letK "name" = "a") = false by decide +kernel] at e4
    have hg : goodPart known size "name" p = isN p := by
      unfold goodPart
      rw [if_neg (by decide +kernel), if_pos rfl]
    rw [hg]
    show sSeq (sIf _ _ _) _ _ = _
    rw [if_seq (tA_yes e1 hnm)]
    cases isN p with
    | false => rfl
    | true => rw [Bool.not_true, if_neg Bool.false_ne_true, next_seq, if_seq (tA_no e2'), if_neg Bool.false_ne_true, next_seq, if_seq (tA_no e3), if_neg Bool.false_ne_true, next_seq, if_no (tA_no e4)]; rfl
  · rw [show decide (letK "number" = "n") = false by decide +kernel] at e1
    rw [show decide (letK "number" = "p") = false by decide +kernel] at e2'
    rw [show decide (letK "number" = "w") = true by decide +kernel] at e3
    rw [show decide (letK "number" = "a") = false by decide +kernel] at e4
    have hg : goodPart known size "number" p = isW (-1000000000000000000) 1000000000000000000 p := by
      unfold goodPart
      rw [if_neg (by decide +kernel), if_neg (by decide +kernel), if_pos rfl]
    rw [hg]
    have t3 : tA (tE (e2 gEq (eVarO 4) (eC (.str "w")))) (tO (tN (tE (eA (fun ds => if ds.length = 1 then f__law_whole ds else none) (aCons (eVar 5) aNil)))) (tE (e2 (gB fun i j => decide (j < i)) (eA gAbs (aCons (eVarO 5) aNil)) (eC (.int 1000000000000000000))))) (goE d known size (.sh (.str (letK "number"))) (.sh p)) = some (!isW (-1000000000000000000) 1000000000000000000 p) := by
      refine tA_yes e3 ?_
      cases hw : (kI p && !kB p) with
      | false =>
        rw [hw] at hwh
        rw [tO_ev (y := true) hwh (fun z => by cases z), isW_no hw]
        rfl
      | true =>
        obtain ⟨i, rfl⟩ := whole_cases hw
        rw [hw] at hwh
        rw [tO_ev hwh fun _ => gt_ev (abs_int rfl) rfl]
        unfold isW
        congr 1
        rw [Bool.eq_iff_iff]
        simp
        split <;> omega
    show sSeq (sIf _ _ _) _ _ = _
    rw [if_seq (tA_no e1), if_neg Bool.false_ne_true, next_seq, if_seq (tA_no e2'), if_neg Bool.false_ne_true, next_seq, if_seq t3]
    cases isW (-1000000000000000000) 1000000000000000000 p with
    | false => rfl
    | true => rw [Bool.not_true, if_neg Bool.false_ne_true, next_seq, if_no (tA_no e4)]; rfl
  · rw [show decide (letK "place" = "n") = false by decide +kernel] at e1
    rw [show decide (letK "place" = "p") = false by decide +kernel] at e2'
    rw [show decide (letK "place" = "w") = false by decide +kernel] at e3
    rw [show decide (letK "place" = "a") = true by decide +kernel] at e4
    have hg : goodPart known size "place" p = isW 0 size p := by
      unfold goodPart
      rw [if_neg (by decide +kernel), if_neg (by decide +kernel), if_neg (by decide +kernel)]
    rw [hg]
    have t4 : tA (tE (e2 gEq (eVarO 4) (eC (.str "a")))) (tO (tN (tE (eA (fun ds => if ds.length = 1 then f__law_whole ds else none) (aCons (eVar 5) aNil)))) (tO (tE (e2 (gB fun i j => decide (i < j)) (eVarO 5) (eC (.int 0)))) (tE (e2 (gB fun i j => decide (j < i)) (eVarO 5) (eVarO 2))))) (goE d known size (.sh (.str (letK "place"))) (.sh p)) = some (!isW 0 size p) := by
      refine tA_yes e4 ?_
      cases hw : (kI p && !kB p) with
      | false =>
        rw [hw] at hwh
        rw [tO_ev (y := true) hwh (fun z => by cases z), isW_no hw]
        rfl
      | true =>
        obtain ⟨i, rfl⟩ := whole_cases hw
        rw [hw] at hwh
        rw [tO_ev hwh fun _ => tO_ev (lt_ev (i := i) (j := 0) rfl rfl) fun _ => gt_ev (i := i) (j := size) rfl rfl]
        unfold isW
        congr 1
        rw [Bool.eq_iff_iff]
        simp
    show sSeq (sIf _ _ _) _ _ = _
    rw [if_seq (tA_no e1), if_neg Bool.false_ne_true, next_seq, if_seq (tA_no e2'), if_neg Bool.false_ne_true, next_seq, if_seq (tA_no e3), if_neg Bool.false_ne_true, next_seq]
    cases hi : isW 0 size p with
    | false => rw [hi] at t4; rw [if_yes t4]; rfl
    | true => rw [hi] at t4; rw [if_no t4]; rfl
theorem good_loop (d : PyData) (known : List Str) (hn : ∀ y ∈ known, PyData.strOk y = true) (hk : ∀ y ∈ known, okN y = true) (size : Int) : ∀ (kinds : List Str) (parts : List PyData) (s4 s5 : Sl), (∀ k ∈ kinds, k ∈ kinds4) → parts.all sP = true →
    ∃ s4' s5', fGo (tgT 2 (tgCons (tgN 4) (tgCons (tgN 5) tgNil))) goT (zipD (kinds.map fun k => .str (letK k)) parts) (goE d known size s4 s5) = some (if goodParts known size parts kinds = true then .nx (goE d known size s4' s5') else .rt (.bool false))
  | [], [], s4, s5, _, _ => ⟨s4, s5, rfl⟩
  | [], _ :: _, s4, s5, _, _ => ⟨s4, s5, rfl⟩
  | _ :: _, [], s4, s5, _, _ => ⟨s4, s5, rfl⟩
  | k :: kinds, p :: parts, s4, s5, hk4, h => by
    rw [List.all_cons, Bool.and_eq_true] at h
    have t := turn_good d known hn hk size (hk4 k (List.mem_cons_self ..)) h.1
    obtain ⟨a, b, e⟩ := good_loop d known hn hk size kinds parts (.sh (.str (letK k))) (.sh p) (fun k' m => hk4 k' (List.mem_cons_of_mem _ m)) h.2
    refine ⟨a, b, ?_⟩
    show fGo _ _ (.tuple [.str (letK k), p] :: zipD (kinds.map fun k => .str (letK k)) parts) _ = _
    unfold goodParts
    cases hg : goodPart known size k p with
    | true =>
      rw [hg, if_pos rfl] at t
      rw [Bool.true_and]
      exact (fgo_nx (e1 := goE d known size (.sh (.str (letK k))) (.sh p)) (e2 := goE d known size (.sh (.str (letK k))) (.sh p)) rfl t).trans e
    | false =>
      rw [hg, if_neg Bool.false_ne_true] at t
      rw [Bool.false_and, if_neg Bool.false_ne_true]
      exact fgo_rt (e1 := goE d known size (.sh (.str (letK k))) (.sh p)) rfl t
theorem m_good_row {d : PyData} (h : sR d = true) (known : List Str) (hn : ∀ y ∈ known, PyData.strOk y = true) (hk : ∀ y ∈ known, okN y = true) (size : Int) : f__law_good_row [d, .list (known.map PyData.str), .int size] = some (.bool (goodRow known size d)) := by
  unfold f__law_good_row fnD F__law_good_row
  have h0 : fEnv 6 [d, .list (known.map PyData.str), .int size] = [.sh d, .sh (.list (known.map PyData.str)), .sh (.int size), .un, .un, .un] := rfl
  rw [h0]
  have no : ∀ R, noD d = true → kT d = false → sSeq (sIf (tO (tN (tE (e1 (gIsi "tuple") (eVarO 0)))) (tO (tE (e2 gEq (eA gLen (aCons (eVarO 0) aNil)) (eC (.int 0)))) (tN (tE (e1 (gIsi "str") (e2 gIx (eVarO 0) (eC (.int 0)))))))) (sRet (eC (.bool false))) sNext) R [.sh d, .sh (.list (known.map PyData.str)), .sh (.int size), .un, .un, .un] = some (.rt (.bool false)) := fun R h1 h2 => by
    rw [if_seq (tO_ev (x := true) (y := true) ((tN_ev (isi_ev (d := d) rfl (isi_t h1))).trans (by rw [h2]; rfl)) fun z => by cases z)]
    rfl
  match d, h with
  | .none, h => rw [no _ rfl rfl]; rfl
  | .bool b, h => rw [no _ rfl rfl]; rfl
  | .int b, h => rw [no _ rfl rfl]; rfl
  | .str b, h => rw [no _ rfl rfl]; rfl
  | .list b, h => rw [no _ rfl rfl]; rfl
  | .dict b, h => rw [no _ h rfl]; rfl
  | .tuple [], h =>
    rw [if_seq (tO_ev (x := false) (y := true) (tN_ev (isi_ev (d := .tuple []) (b := true) rfl (isi_t rfl))) fun _ => (tO_ev (x := true) (y := true) ((eqi_ev (i := (([] : List PyData).length : Int)) (j := 0) (lent_tup rfl) rfl).trans rfl) fun z => by cases z))]
    rfl
  | .tuple (w :: ps), h =>
    obtain ⟨h12, h3⟩ := Bool.and_eq_true_iff.mp (show ((sH w && ps.all sP) && decide (ps.length ≤ 100)) = true from h)
    obtain ⟨h1, h2⟩ := Bool.and_eq_true_iff.mp h12
    have h4 := of_decide_eq_true h3
    have hix : ∀ env : PL.Env, env[0]? = some (.sh (.tuple (w :: ps))) → e2 gIx (eVarO 0) (eC (.int 0)) env = some w := fun env he => by
      have hv : eVarO 0 env = some (.tuple (w :: ps)) := by unfold eVarO; rw [he]
      exact ixt_ev (d := w) (i := ((0 : Nat) : Int)) hv rfl (atI_nat' (n := 0) rfl)
    have t1 : tO (tN (tE (e1 (gIsi "tuple") (eVarO 0)))) (tO (tE (e2 gEq (eA gLen (aCons (eVarO 0) aNil)) (eC (.int 0)))) (tN (tE (e1 (gIsi "str") (e2 gIx (eVarO 0) (eC (.int 0))))))) [.sh (.tuple (w :: ps)), .sh (.list (known.map PyData.str)), .sh (.int size), .un, .un, .un] = some (!kS w) := by
      rw [tO_ev (tN_ev (isi_ev (d := .tuple (w :: ps)) (b := true) rfl (isi_t rfl))) fun _ => tO_ev (eqi_ev (lent_tup rfl) rfl) fun _ => tN_ev (isi_ev (hix _ rfl) (isi_s (sH_noD h1))), decide_eq_false (by rw [List.length_cons]; omega)]
      rfl
    rw [if_seq t1]
    cases hw : kS w with
    | false =>
      cases w with
      | str _ => cases hw
      | _ => rfl
    | true =>
      match w, hw, h1, hix with
      | .str w, _, h1, hix =>
        rw [Bool.not_true, if_neg Bool.false_ne_true, next_seq]
        have hd : sDict2 3 ["open", "lay", "copy", "same", "add", "tell", "give"] (aCons (eC (.str "p")) (aCons (eC (.str "npw")) (aCons (eC (.str "nnp")) (aCons (eC (.str "nn")) (aCons (eC (.str "nn")) (aCons (eC (.str "n")) (aCons (eC (.str "p")) aNil))))))) ["fork", "go", "end"] (aCons (eC (.str "a")) (aCons (eC (.str "a")) (aCons (eC (.str "")) aNil))) [.sh (.tuple (.str w :: ps)), .sh (.list (known.map PyData.str)), .sh (.int size), .un, .un, .un] = some (.nx (goE (.tuple (.str w :: ps)) known size .un .un)) := rfl
        rw [seq_nx hd]
        have hG : ∀ o, lookT tab_SHAPES w = o → goodRow known size (.tuple (.str w :: ps)) = (match o with
          | some ks => decide (ps.length = ks.length) && goodParts known size ps ks
          | none => false) := fun o e => by rw [← e]; rfl
        have din : ∀ b, (lookP formsK w).isSome = b → tE (e2 (gDin true) (e2 gIx (eVarO 0) (eC (.int 0))) (eVar 3)) (goE (.tuple (.str w :: ps)) known size .un .un) = some (!b) := fun b hb => by
          refine vt_ev (e2v (hix _ rfl) (y := .dict formsK) rfl ?_)
          show (if formsK.all isKS then some (PyData.bool (if true then !(lookP formsK w).isSome else (lookP formsK w).isSome)) else none) = _
          rw [forms_keys, hb]
          rfl
        cases hkd : lookT tab_SHAPES w with
        | none =>
          have hw : w = "hop" := by
            have h1' : ((lookT tab_SHAPES w).isSome || decide (w = "hop")) = true := h1
            rw [hkd] at h1'
            exact of_decide_eq_true (by simpa using h1')
          rw [hG _ hkd, if_seq (tO_ev (x := true) (y := true) (din false (by rw [hw, no_hop]; rfl)) fun z => by cases z)]
          rfl
        | some kinds =>
          rw [hG _ hkd]
          dsimp only
          obtain ⟨z, hz, hasc, hlet, hzl, hk4⟩ := form_of hkd
          have hdg : ∀ s4 s5, e2 gDg (eVar 3) (e2 gIx (eVarO 0) (eC (.int 0))) (goE (.tuple (.str w :: ps)) known size s4 s5) = some (.str z) := fun s4 s5 => e2v (x := .dict formsK) rfl (hix _ rfl) hz
          have hks : kinds.length ≤ 3 := by
            have : ∀ q ∈ tab_SHAPES, q.2.length ≤ 3 := by decide +kernel
            unfold lookT at hkd
            rw [Option.map_eq_some_iff] at hkd
            obtain ⟨q, hq, rfl⟩ := hkd
            exact this q (List.mem_of_find?_eq_some hq)
          have t2 : tO (tE (e2 (gDin true) (e2 gIx (eVarO 0) (eC (.int 0))) (eVar 3))) (tE (e2 gNe (eA gLen (aCons (eVarO 0) aNil)) (e2 gAdd (eC (.int 1)) (eA gLen (aCons (e2 gDg (eVar 3) (e2 gIx (eVarO 0) (eC (.int 0)))) aNil))))) (goE (.tuple (.str w :: ps)) known size .un .un) = some (!decide (ps.length = kinds.length)) := by
            rw [tO_ev (din true (by rw [hz]; rfl)) fun _ => nei_ev (lent_tup rfl) (add_ev rfl (lent_ev (hdg _ _) (by omega)))]
            rw [List.length_cons, Bool.not_true, Bool.false_or]
            congr 2
            exact decide_eq_decide.mpr (by omega)
          rw [if_seq t2]
          cases hl : decide (ps.length = kinds.length) with
          | false => rfl
          | true =>
            rw [Bool.not_true, if_neg Bool.false_ne_true, next_seq, Bool.true_and]
            have hzs : iZs (aCons (e2 gDg (eVar 3) (e2 gIx (eVarO 0) (eC (.int 0)))) (aCons (eSlT (eVarO 0) (oSome (eC (.int 1))) oNone) aNil)) (goE (.tuple (.str w :: ps)) known size .un .un) = some (zipD (kinds.map fun k => .str (letK k)) ps) := by
              unfold iZs
              have hs : eSlT (eVarO 0) (oSome (eC (.int 1))) oNone (goE (.tuple (.str w :: ps)) known size .un .un) = some (.tuple ps) := by
                show some (PyData.tuple (PL.cutD (.str w :: ps) (some ((1 : Nat) : Int)) none)) = _
                rw [cutD_from]
                rfl
              rw [acons_ev (hdg _ _) (acons_ev hs anil_ev), Option.bind_some]
              show (if z.cps.all (· < 128) = true then (asTu (.tuple ps)).map fun ys => zipD (z.cps.toList.map fun c => .str ⟨#[c]⟩) ys else none) = _
              rw [if_pos hasc, hlet]
              rfl
            obtain ⟨a, b, e⟩ := good_loop (.tuple (.str w :: ps)) known hn hk size kinds ps .un .un hk4 h2
            have e' : sFor (iZs (aCons (e2 gDg (eVar 3) (e2 gIx (eVarO 0) (eC (.int 0)))) (aCons (eSlT (eVarO 0) (oSome (eC (.int 1))) oNone) aNil))) (tgT 2 (tgCons (tgN 4) (tgCons (tgN 5) tgNil))) goT (goE (.tuple (.str w :: ps)) known size .un .un) = some (if goodParts known size ps kinds = true then .nx (goE (.tuple (.str w :: ps)) known size a b) else .rt (.bool false)) := by
              unfold sFor
              rw [hzs, Option.bind_some]
              exact e
            cases hg : goodParts known size ps kinds with
            | true =>
              rw [hg, if_pos rfl] at e'
              rw [seq_nx e']
              rfl
            | false =>
              rw [hg, if_neg Bool.false_ne_true] at e'
              rw [seq_rt e']
              rfl
end K01
namespace K01
open PX PySem L2 PySem.Spec PyProof.Rows PL PR
/-! Pairs; what need answers, and what the law's own checks answer. -/
def isNon : PyData → Bool
  | .none => true
  | _ => false
def goodPair (ahead : List Str) : PyData → Bool
  | .tuple [a, b] => (isN a && !inN ahead a) && (isNon b || inN ahead b)
  | _ => false
def sPair : PyData → Bool
  | .tuple ps => ps.all sP && decide (ps.length ≤ 100)
  | d => noD d
def nmOf : PyData → Str
  | .tuple (.str z :: _) => z
  | _ => ""
theorem isn_ev {a : PL.Env → Option PyData} {env : PL.Env} {d : PyData} (h : a env = some d) (neg : Bool) : e1 (gIsN neg) a env = some (.bool (if neg then !isNon d else isNon d)) := by
  unfold e1
  rw [h, Option.bind_some]
  cases d <;> cases neg <;> rfl
theorem good_shape {ahead : List Str} {d : PyData} (h : goodPair ahead d = true) : ∃ z b, d = .tuple [.str z, b] ∧ okN z = true ∧ z ∉ ahead := by
  match d, h with
  | .tuple [a, b], h =>
    have h1 := (Bool.and_eq_true_iff.mp h).1
    obtain ⟨h2, h3⟩ := Bool.and_eq_true_iff.mp h1
    cases a with
    | str z => exact ⟨z, b, rfl, h2, fun m => by
        have : inN ahead (.str z) = true := decide_eq_true m
        rw [this] at h3
        cases h3⟩
    | none => cases h2
    | bool _ => cases h2
    | int _ => cases h2
    | list _ => cases h2
    | tuple _ => cases h2
    | dict _ => cases h2
theorem lenT {f : PL.Env → Option PyData} {env : PL.Env} {ds : List PyData} (h : f env = some (.tuple ds)) : eA gLen (aCons f aNil) env = some (.int (ds.length : Int)) := lent_tup h
theorem not_two {l : List PyData} (h : l.length ≠ 2) (ahead : List Str) : goodPair ahead (.tuple l) = false := by
  match l, h with
  | [], _ => rfl
  | [_], _ => rfl
  | [_, _], h => exact absurd rfl h
  | _ :: _ :: _ :: _, _ => rfl
theorem m_is_pair {d : PyData} (h : sPair d = true) (ahead : List Str) (ha : ∀ y ∈ ahead, PyData.strOk y = true) : f_is_pair [d, .list (ahead.map PyData.str)] = some (.bool (goodPair ahead d)) := by
  unfold f_is_pair fnD F_is_pair
  have h0 : fEnv 4 [d, .list (ahead.map PyData.str)] = [.sh d, .sh (.list (ahead.map PyData.str)), .un, .un] := rfl
  rw [h0]
  have no : ∀ R, noD d = true → kT d = false → sSeq (sIf (tO (tN (tE (e1 (gIsi "tuple") (eVarO 0)))) (tE (e2 gNe (eA gLen (aCons (eVarO 0) aNil)) (eC (.int 2))))) (sRet (eC (.bool false))) sNext) R [.sh d, .sh (.list (ahead.map PyData.str)), .un, .un] = some (.rt (.bool false)) := fun R h1 h2 => by
    rw [if_seq (tO_ev (x := true) (y := true) ((tN_ev (isi_ev (d := d) rfl (isi_t h1))).trans (by rw [h2]; rfl)) fun z => by cases z)]
    rfl
  match d, h with
  | .none, h => rw [no _ rfl rfl]; rfl
  | .bool b, h => rw [no _ rfl rfl]; rfl
  | .int b, h => rw [no _ rfl rfl]; rfl
  | .str b, h => rw [no _ rfl rfl]; rfl
  | .list b, h => rw [no _ rfl rfl]; rfl
  | .dict b, h => rw [no _ h rfl]; rfl
  | .tuple l, h =>
    obtain ⟨h1, h2⟩ := Bool.and_eq_true_iff.mp (show (l.all sP && decide (l.length ≤ 100)) = true from h)
    have h3 := of_decide_eq_true h2
    have t1 : tO (tN (tE (e1 (gIsi "tuple") (eVarO 0)))) (tE (e2 gNe (eA gLen (aCons (eVarO 0) aNil)) (eC (.int 2)))) [.sh (.tuple l), .sh (.list (ahead.map PyData.str)), .un, .un] = some (!decide (l.length = 2)) := by
      rw [tO_ev (tN_ev (isi_ev (d := .tuple l) (b := true) rfl (isi_t rfl))) fun _ => nei_ev (lenT rfl) rfl]
      rw [Bool.not_true, Bool.false_or]
      congr 2
      exact decide_eq_decide.mpr (by omega)
    rw [if_seq t1]
    by_cases h4 : l.length = 2
    · rw [decide_eq_true h4, Bool.not_true, if_neg Bool.false_ne_true, next_seq]
      match l, h4, h1 with
      | [a, b], _, h1 =>
        have pa : sP a = true := List.all_eq_true.mp h1 a (List.mem_cons_self ..)
        have pb : sP b = true := List.all_eq_true.mp h1 b (List.mem_cons_of_mem _ (List.mem_cons_self ..))
        have a1 : sAsg (eVar 0) (tgT 2 (tgCons (tgN 2) (tgCons (tgN 3) tgNil))) [.sh (.tuple [a, b]), .sh (.list (ahead.map PyData.str)), .un, .un] = some (.nx [.sh (.tuple [a, b]), .sh (.list (ahead.map PyData.str)), .sh a, .sh b]) := rfl
        rw [seq_nx a1]
        have t2 : tO (tN (tE (eA (fun ds => if ds.length = 1 then f_is_name ds else none) (aCons (eVar 2) aNil)))) (tE (e2 (gInL false) (eVarO 2) (eVarO 1))) [.sh (.tuple [a, b]), .sh (.list (ahead.map PyData.str)), .sh a, .sh b] = some ((!isN a) || inN ahead a) :=
          tO_ev (tN_ev (vt_ev (call1_ev (x := a) rfl (m_name pa).1))) fun _ => vt_ev (ins_part (neg := false) rfl rfl pa ha)
        rw [if_seq t2]
        have hg : goodPair ahead (.tuple [a, b]) = ((!((!isN a) || inN ahead a)) && (isNon b || inN ahead b)) := by
          show ((isN a && !inN ahead a) && (isNon b || inN ahead b)) = _
          cases isN a <;> cases inN ahead a <;> rfl
        rw [hg]
        cases ((!isN a) || inN ahead a) with
        | true => rfl
        | false =>
          rw [if_neg Bool.false_ne_true, next_seq, rt1_ev (orb_ev (vt_ev (isn_ev (d := b) rfl false)) fun _ => ins_part (neg := false) rfl rfl pb ha)]
          rfl
    · rw [decide_eq_false h4, not_two h4]
      rfl
/-! ### the program's need -/
section
variable {F G : PL.Env → Option OutX} {env en : PL.Env}
theorem xseq_nx (h : F env = some (.ok (.nx en))) : xSeq F G env = G en := by
  unfold xSeq
  rw [h]
  rfl
theorem xseq_er {e : ErrS} (h : F env = some (.er e en)) : xSeq F G env = some (.er e en) := by
  unfold xSeq
  rw [h]
  rfl
theorem xif_val {t : PL.Env → Option Bool} {b : Bool} (h : t env = some b) : xIf t F G env = if b then F env else G env := by
  unfold xIf
  rw [h]
  rfl
theorem xfgo_nx {T : PyData → PL.Env → Option PL.Env} {x : PyData} {xs : List PyData} {e1 e2 : PL.Env} (h1 : T x env = some e1) (h2 : F e1 = some (.ok (.nx e2))) : xfGo T F (x :: xs) env = xfGo T F xs e2 := by
  rw [xfGo, h1, Option.bind_some, h2]
  rfl
theorem xfgo_er {T : PyData → PL.Env → Option PL.Env} {x : PyData} {xs : List PyData} {e1 e2 : PL.Env} {e : ErrS} (h1 : T x env = some e1) (h2 : F e1 = some (.er e e2)) : xfGo T F (x :: xs) env = some (.er e e2) := by
  rw [xfGo, h1, Option.bind_some, h2]
  rfl
end
def scan : List PyData → List Str → Nat → Option Nat
  | [], _, _ => none
  | d :: r, ahead, k => if goodPair ahead d = true then scan r (ahead ++ [nmOf d]) (k + 1) else some k
def badPlots : PyData → Option PyData
  | .list l => if 12 < l.length then some .none else (scan l [] 0).map fun k : Nat => PyData.int (k : Int)
  | _ => some .none
def namesD : PyData → List Str
  | .list l => l.map nmOf
  | _ => []
def scanR (names : List Str) (last : Int) : List PyData → Nat → Option Nat
  | [], _ => none
  | d :: r, k => if goodRow names last d = true then scanR names last r (k + 1) else some k
def badRows (names : List Str) : PyData → Option PyData
  | .list l => if 60 < l.length then some .none else (scanR names l.length l 0).map fun k : Nat => PyData.int (k : Int)
  | _ => some .none
def nP : PyData → Bool
  | .list l => l.all sPair && decide (l.length ≤ 10000)
  | d => noD d
def nR : PyData → Bool
  | .list l => l.all sR && decide (l.length ≤ 10000)
  | d => noD d
theorem ok_place (m : Str) (hm : m = "bad plots, at " ∨ m = "bad rows, at ") : ∀ k : Nat, k < 100 → okAt m (.int (k : Int)) = true := by
  rcases hm with rfl | rfl
  · have : ∀ k : Nat, k < 100 → okAt "bad plots, at " (.int (k : Int)) = true := by decide +kernel
    exact this
  · have : ∀ k : Nat, k < 100 → okAt "bad rows, at " (.int (k : Int)) = true := by decide +kernel
    exact this
theorem raise_ev {C : Addr} {m : Str} {f : PL.Env → Option PyData} {env : PL.Env} {d : PyData} (h : f env = some d) (ho : okAt m d = true) : xRaise C m f env = some (.er (.at_ C d) env) := by
  unfold xRaise
  rw [h, Option.bind_some, if_pos ho]
abbrev npE (P : PyData) (ahead : List Str) (s2 s3 : Sl) : PL.Env := [.sh P, .own (ahead.map PyData.str), s2, s3]
abbrev npT (C : Addr) : PL.Env → Option OutX := (xSeq (xIf (tN (tE (eA (fun ds => if ds.length = 2 then (f_is_pair ds).bind fun d => if noList d then some d else none else none) (aCons (eVarO 3) (aCons (eVarO 1) aNil))))) (xRaise C "bad plots, at " (eVar 2)) (lft sNext))
    (lft (sApp 1 (e2 gIx (eVarO 3) (eC (.int 0))))))
theorem np_turn (C : Addr) (P : PyData) (ahead : List Str) (ha : ∀ y ∈ ahead, PyData.strOk y = true) (hz : ahead.length ≤ 1000) (k : Nat) (hk : k < 100) {d : PyData} (hd : sPair d = true) :
    npT C (npE P ahead (.sh (.int (k : Int))) (.sh d)) = some (if goodPair ahead d = true then .ok (.nx (npE P (ahead ++ [nmOf d]) (.sh (.int (k : Int))) (.sh d))) else .er (.at_ C (.int (k : Int))) (npE P ahead (.sh (.int (k : Int))) (.sh d))) := by
  have ht : tN (tE (eA (fun ds => if ds.length = 2 then (f_is_pair ds).bind fun d => if noList d then some d else none else none) (aCons (eVarO 3) (aCons (eVarO 1) aNil)))) (npE P ahead (.sh (.int (k : Int))) (.sh d)) = some (!goodPair ahead d) := by
    refine tN_ev (vt_ev ?_)
    have h1 : eVarO 3 (npE P ahead (.sh (.int (k : Int))) (.sh d)) = some d := rfl
    have h2 : eVarO 1 (npE P ahead (.sh (.int (k : Int))) (.sh d)) = some (.list (ahead.map PyData.str)) := rfl
    unfold eA
    rw [acons_ev h1 (acons_ev h2 anil_ev), Option.bind_some]
    show ((f_is_pair [d, .list (ahead.map PyData.str)]).bind fun d => if noList d = true then some d else none) = _
    rw [m_is_pair hd ahead ha]
    rfl
  cases hg : goodPair ahead d with
  | true =>
    obtain ⟨z, b, rfl, _, _⟩ := good_shape hg
    rw [if_pos rfl]
    show xSeq (xIf _ _ _) _ _ = _
    rw [xseq_nx (en := npE P ahead (.sh (.int (k : Int))) (.sh (.tuple [.str z, b]))) (by rw [xif_val (ht.trans (by rw [hg])), Bool.not_true, if_neg Bool.false_ne_true]; rfl)]
    have ha2 : sApp 1 (e2 gIx (eVarO 3) (eC (.int 0))) (npE P ahead (.sh (.int (k : Int))) (.sh (.tuple [.str z, b]))) = _ := app_nx (i := 1) (ds := ahead.map PyData.str) (d := .str z) rfl (ixt_ev (i := ((0 : Nat) : Int)) rfl rfl (atI_nat' (n := 0) rfl)) (by rw [List.length_map]; omega)
    unfold lft
    rw [ha2]
    show some (OutX.ok (.nx [.sh P, .own (ahead.map PyData.str ++ [.str z]), _, _])) = _
    rw [show ahead.map PyData.str ++ [PyData.str z] = (ahead ++ [z]).map PyData.str by rw [List.map_append]; rfl]
    rfl
  | false =>
    rw [if_neg Bool.false_ne_true]
    refine xseq_er ?_
    rw [xif_val (ht.trans (by rw [hg])), Bool.not_false, if_pos rfl]
    exact raise_ev rfl (ok_place _ (.inl rfl) k hk)
theorem np_loop (C : Addr) (P : PyData) : ∀ (l : List PyData) (ahead : List Str) (k : Nat) (s2 s3 : Sl), l.all sPair = true → (∀ y ∈ ahead, PyData.strOk y = true) → k + l.length < 100 → ahead.length + l.length ≤ 1000 →
    (∀ j, scan l ahead k = some j → ∃ en, xfGo (tgT 2 (tgCons (tgN 2) (tgCons (tgN 3) tgNil))) (npT C) (numD k l) (npE P ahead s2 s3) = some (.er (.at_ C (.int (j : Int))) en)) ∧
    (scan l ahead k = none → (∃ s2' s3', xfGo (tgT 2 (tgCons (tgN 2) (tgCons (tgN 3) tgNil))) (npT C) (numD k l) (npE P ahead s2 s3) = some (.ok (.nx (npE P (ahead ++ l.map nmOf) s2' s3')))))
  | [], ahead, k, s2, s3, _, _, _, _ => ⟨(fun j h => by cases h), fun _ => ⟨s2, s3, by rw [List.map_nil, List.append_nil]; rfl⟩⟩
  | d :: l, ahead, k, s2, s3, h, ha, hk, hz => by
    rw [List.all_cons, Bool.and_eq_true] at h
    rw [List.length_cons] at hk hz
    have t := np_turn C P ahead ha (by omega) k (by omega) h.1
    have hc : numD k (d :: l) = .tuple [.int (k : Int), d] :: numD (k + 1) l := rfl
    rw [hc]
    have hs : scan (d :: l) ahead k = if goodPair ahead d = true then scan l (ahead ++ [nmOf d]) (k + 1) else some k := rfl
    rw [hs]
    cases hg : goodPair ahead d with
    | true =>
      rw [hg, if_pos rfl] at t
      obtain ⟨z, b, rfl, hz2, _⟩ := good_shape hg
      have hzs : PyData.strOk z = true := by
        have h1 : ([PyData.str z, b].all sP && decide ([PyData.str z, b].length ≤ 100)) = true := h.1
        have := List.all_eq_true.mp (Bool.and_eq_true_iff.mp h1).1 (.str z) (List.mem_cons_self ..)
        exact (Bool.and_eq_true_iff.mp (show okT z = true from this)).1
      obtain ⟨i1, i2⟩ := np_loop C P l (ahead ++ [z]) (k + 1) (.sh (.int (k : Int))) (.sh (.tuple [.str z, b])) h.2 (fun y m => by
        rcases List.mem_append.mp m with m | m
        · exact ha y m
        · rw [List.mem_singleton.mp m]; exact hzs) (by omega) (by rw [List.length_append, List.length_singleton]; omega)
      have st : xfGo (tgT 2 (tgCons (tgN 2) (tgCons (tgN 3) tgNil))) (npT C) (.tuple [.int (k : Int), .tuple [.str z, b]] :: numD (k + 1) l) (npE P ahead s2 s3) = xfGo (tgT 2 (tgCons (tgN 2) (tgCons (tgN 3) tgNil))) (npT C) (numD (k + 1) l) (npE P (ahead ++ [z]) (.sh (.int (k : Int))) (.sh (.tuple [.str z, b]))) := xfgo_nx (e1 := npE P ahead (.sh (.int (k : Int))) (.sh (.tuple [.str z, b]))) rfl t
      rw [if_pos rfl, st]
      refine ⟨i1, fun hn => ?_⟩
      obtain ⟨a, b', e⟩ := i2 hn
      refine ⟨a, b', e.trans ?_⟩
      rw [List.append_assoc, List.map_cons]
      rfl
    | false =>
      rw [hg, if_neg Bool.false_ne_true] at t
      rw [if_neg Bool.false_ne_true]
      refine ⟨fun j hj => ?_, fun hn => by cases hn⟩
      cases hj
      exact ⟨_, xfgo_er (e1 := npE P ahead (.sh (.int (k : Int))) (.sh d)) rfl t⟩
theorem m_need_plots (C : Addr) {P : PyData} (h : nP P = true) : fX_need_plots C [P] = some (match badPlots P with | some d => .er (.at_ C d) | none => .val (.list ((namesD P).map PyData.str))) := by
  unfold fX_need_plots fnX FX_need_plots
  have h0 : fEnv 4 [P] = [.sh P, .un, .un, .un] := rfl
  rw [h0]
  have bad : ∀ R, tO (tN (tE (e1 (gIsi "list") (eVarO 0)))) (tE (e2 (gB fun i j => decide (j < i)) (eA gLen (aCons (eVarO 0) aNil)) (eC (.int 12)))) [.sh P, .un, .un, .un] = some true → outR (xSeq (xIf (tO (tN (tE (e1 (gIsi "list") (eVarO 0)))) (tE (e2 (gB fun i j => decide (j < i)) (eA gLen (aCons (eVarO 0) aNil)) (eC (.int 12))))) (xRaise C "bad plots, at " (eC .none)) (lft sNext)) R [.sh P, .un, .un, .un]) = some (.er (.at_ C .none)) := fun R ht => by
    rw [xseq_er (en := [.sh P, .un, .un, .un]) (e := .at_ C .none) (by rw [xif_val ht, if_pos rfl]; exact raise_ev rfl rfl)]
    rfl
  have nl : noD P = true → kL P = false → tO (tN (tE (e1 (gIsi "list") (eVarO 0)))) (tE (e2 (gB fun i j => decide (j < i)) (eA gLen (aCons (eVarO 0) aNil)) (eC (.int 12)))) [.sh P, .un, .un, .un] = some true := fun h1 h2 => (tO_ev (x := true) (y := true) ((tN_ev (isi_ev (d := P) rfl (isi_l h1))).trans (by rw [h2]; rfl)) fun z => by cases z)
  match P, h with
  | .none, h => exact bad _ (nl rfl rfl)
  | .bool b, h => exact bad _ (nl rfl rfl)
  | .int b, h => exact bad _ (nl rfl rfl)
  | .str b, h => exact bad _ (nl rfl rfl)
  | .tuple b, h => exact bad _ (nl rfl rfl)
  | .dict b, h => exact bad _ (nl h rfl)
  | .list l, h =>
    obtain ⟨h1, h2⟩ := Bool.and_eq_true_iff.mp (show (l.all sPair && decide (l.length ≤ 10000)) = true from h)
    have h3 := of_decide_eq_true h2
    have ht : tO (tN (tE (e1 (gIsi "list") (eVarO 0)))) (tE (e2 (gB fun i j => decide (j < i)) (eA gLen (aCons (eVarO 0) aNil)) (eC (.int 12)))) [.sh (.list l), .un, .un, .un] = some (decide (12 < l.length)) := by
      rw [tO_ev (tN_ev (isi_ev (d := .list l) (b := true) rfl (isi_l rfl))) fun _ => gt_ev (lenl_ev rfl) rfl]
      rw [Bool.not_true, Bool.false_or]
      congr 1
      exact decide_eq_decide.mpr (by omega)
    have hB : badPlots (.list l) = if 12 < l.length then some .none else (scan l [] 0).map fun k : Nat => PyData.int (k : Int) := rfl
    rw [hB]
    by_cases h4 : 12 < l.length
    · rw [decide_eq_true h4] at ht
      rw [if_pos h4]
      exact bad _ ht
    · rw [decide_eq_false h4] at ht
      rw [if_neg h4, xseq_nx (en := [.sh (.list l), .un, .un, .un]) (by rw [xif_val ht, if_neg Bool.false_ne_true]; rfl)]
      have own : lft (sOwn (nLst aNil) 1) [.sh (.list l), .un, .un, .un] = some (.ok (.nx (npE (.list l) [] .un .un))) := rfl
      rw [xseq_nx own]
      obtain ⟨i1, i2⟩ := np_loop C (.list l) l [] 0 .un .un h1 (fun y m => by cases m) (by omega) (by rw [List.length_nil]; omega)
      have hfor : xFor (iEn (aCons (eVar 0) aNil)) (tgT 2 (tgCons (tgN 2) (tgCons (tgN 3) tgNil))) (npT C) (npE (.list l) [] .un .un) = xfGo (tgT 2 (tgCons (tgN 2) (tgCons (tgN 3) tgNil))) (npT C) (numD 0 l) (npE (.list l) [] .un .un) := rfl
      cases hs : scan l [] 0 with
      | some j =>
        obtain ⟨en, e⟩ := i1 j hs
        exact (congrArg outR (xseq_er (hfor.trans e))).trans rfl
      | none =>
        obtain ⟨a, b, e⟩ := i2 hs
        exact (congrArg outR (xseq_nx (hfor.trans e))).trans rfl
end K01
namespace K01
open PX PySem L2 PySem.Spec PyProof.Rows PL PR
/-! need; the law's bad_pair and bad_row. -/
theorem sR_idx {l : List PyData} (h : l.all sR = true) : ∀ d ∈ l, sR d = true := fun d m => List.all_eq_true.mp h d m
abbrev nrE (N R : PyData) (s2 s3 : Sl) : PL.Env := [.sh N, .sh R, s2, s3]
abbrev nrT (C : Addr) : PL.Env → Option OutX := (xIf (tN (tE (eA (fun ds => if ds.length = 3 then f_is_row ds else none) (aCons (eVar 3) (aCons (eVar 0) (aCons (eA gLen (aCons (eVarO 1) aNil)) aNil)))))) (xRaise C "bad rows, at " (eVar 2)) (lft sNext))
theorem nr_loop (C : Addr) (names : List Str) (hn : ∀ y ∈ names, PyData.strOk y = true) (all : List PyData) : ∀ (l : List PyData) (k : Nat) (s2 s3 : Sl), l.all sR = true → k + l.length < 100 →
    (∀ j, scanR names all.length l k = some j → ∃ en, xfGo (tgT 2 (tgCons (tgN 2) (tgCons (tgN 3) tgNil))) (nrT C) (numD k l) (nrE (.list (names.map PyData.str)) (.list all) s2 s3) = some (.er (.at_ C (.int (j : Int))) en)) ∧
    (scanR names all.length l k = none → (∃ s2' s3', xfGo (tgT 2 (tgCons (tgN 2) (tgCons (tgN 3) tgNil))) (nrT C) (numD k l) (nrE (.list (names.map PyData.str)) (.list all) s2 s3) = some (.ok (.nx (nrE (.list (names.map PyData.str)) (.list all) s2' s3')))))
  | [], k, s2, s3, _, _ => ⟨(fun j h => by cases h), fun _ => ⟨s2, s3, rfl⟩⟩
  | d :: l, k, s2, s3, h, hk => by
    rw [List.all_cons, Bool.and_eq_true] at h
    rw [List.length_cons] at hk
    have ht : tN (tE (eA (fun ds => if ds.length = 3 then f_is_row ds else none) (aCons (eVar 3) (aCons (eVar 0) (aCons (eA gLen (aCons (eVarO 1) aNil)) aNil))))) (nrE (.list (names.map PyData.str)) (.list all) (.sh (.int (k : Int))) (.sh d)) = some (!goodRow names all.length d) :=
      tN_ev (vt_ev (call3_ev (x := d) rfl (y := .list (names.map PyData.str)) rfl (u := .int (all.length : Int)) (lenl_ev rfl) (m_is_row h.1 names hn all.length)))
    have hc : numD k (d :: l) = .tuple [.int (k : Int), d] :: numD (k + 1) l := rfl
    rw [hc]
    have hs : scanR names all.length (d :: l) k = if goodRow names all.length d = true then scanR names all.length l (k + 1) else some k := rfl
    rw [hs]
    cases hg : goodRow names all.length d with
    | true =>
      obtain ⟨i1, i2⟩ := nr_loop C names hn all l (k + 1) (.sh (.int (k : Int))) (.sh d) h.2 (by omega)
      have st : xfGo (tgT 2 (tgCons (tgN 2) (tgCons (tgN 3) tgNil))) (nrT C) (.tuple [.int (k : Int), d] :: numD (k + 1) l) (nrE (.list (names.map PyData.str)) (.list all) s2 s3) = xfGo (tgT 2 (tgCons (tgN 2) (tgCons (tgN 3) tgNil))) (nrT C) (numD (k + 1) l) (nrE (.list (names.map PyData.str)) (.list all) (.sh (.int (k : Int))) (.sh d)) :=
        xfgo_nx (e1 := nrE (.list (names.map PyData.str)) (.list all) (.sh (.int (k : Int))) (.sh d)) rfl (by
          show xIf _ _ _ _ = _
          rw [xif_val (ht.trans (by rw [hg])), Bool.not_true, if_neg Bool.false_ne_true]
          rfl)
      rw [if_pos rfl, st]
      exact ⟨i1, i2⟩
    | false =>
      rw [if_neg Bool.false_ne_true]
      refine ⟨fun j hj => ?_, fun hn => by cases hn⟩
      cases hj
      exact ⟨_, xfgo_er (e1 := nrE (.list (names.map PyData.str)) (.list all) (.sh (.int (k : Int))) (.sh d)) rfl (by
        show xIf _ _ _ _ = _
        rw [xif_val (ht.trans (by rw [hg])), Bool.not_false, if_pos rfl]
        exact raise_ev rfl (ok_place _ (.inr rfl) k (by omega)))⟩
theorem m_need_rows (C : Addr) (names : List Str) (hn : ∀ y ∈ names, PyData.strOk y = true) {R : PyData} (h : nR R = true) : fX_need_rows C [.list (names.map PyData.str), R] = some (match badRows names R with | some d => .er (.at_ C d) | none => .val (.bool true)) := by
  unfold fX_need_rows fnX FX_need_rows
  have h0 : fEnv 4 [.list (names.map PyData.str), R] = nrE (.list (names.map PyData.str)) R .un .un := rfl
  rw [h0]
  have bad : ∀ G, tO (tN (tE (e1 (gIsi "list") (eVarO 1)))) (tE (e2 (gB fun i j => decide (j < i)) (eA gLen (aCons (eVarO 1) aNil)) (eC (.int 60)))) (nrE (.list (names.map PyData.str)) R .un .un) = some true → outR (xSeq (xIf (tO (tN (tE (e1 (gIsi "list") (eVarO 1)))) (tE (e2 (gB fun i j => decide (j < i)) (eA gLen (aCons (eVarO 1) aNil)) (eC (.int 60))))) (xRaise C "bad rows, at " (eC .none)) (lft sNext)) G (nrE (.list (names.map PyData.str)) R .un .un)) = some (.er (.at_ C .none)) := fun G ht => by
    rw [xseq_er (en := nrE (.list (names.map PyData.str)) R .un .un) (e := .at_ C .none) (by rw [xif_val ht, if_pos rfl]; exact raise_ev rfl rfl)]
    rfl
  have nl : noD R = true → kL R = false → tO (tN (tE (e1 (gIsi "list") (eVarO 1)))) (tE (e2 (gB fun i j => decide (j < i)) (eA gLen (aCons (eVarO 1) aNil)) (eC (.int 60)))) (nrE (.list (names.map PyData.str)) R .un .un) = some true := fun h1 h2 => (tO_ev (x := true) (y := true) ((tN_ev (isi_ev (d := R) rfl (isi_l h1))).trans (by rw [h2]; rfl)) fun z => by cases z)
  match R, h with
  | .none, h => exact bad _ (nl rfl rfl)
  | .bool b, h => exact bad _ (nl rfl rfl)
  | .int b, h => exact bad _ (nl rfl rfl)
  | .str b, h => exact bad _ (nl rfl rfl)
  | .tuple b, h => exact bad _ (nl rfl rfl)
  | .dict b, h => exact bad _ (nl h rfl)
  | .list l, h =>
    obtain ⟨h1, h2⟩ := Bool.and_eq_true_iff.mp (show (l.all sR && decide (l.length ≤ 10000)) = true from h)
    have h3 := of_decide_eq_true h2
    have ht : tO (tN (tE (e1 (gIsi "list") (eVarO 1)))) (tE (e2 (gB fun i j => decide (j < i)) (eA gLen (aCons (eVarO 1) aNil)) (eC (.int 60)))) (nrE (.list (names.map PyData.str)) (.list l) .un .un) = some (decide (60 < l.length)) := by
      rw [tO_ev (tN_ev (isi_ev (d := .list l) (b := true) rfl (isi_l rfl))) fun _ => gt_ev (lenl_ev rfl) rfl]
      rw [Bool.not_true, Bool.false_or]
      congr 1
      exact decide_eq_decide.mpr (by omega)
    have hB : badRows names (.list l) = if 60 < l.length then some .none else (scanR names l.length l 0).map fun k : Nat => PyData.int (k : Int) := rfl
    rw [hB]
    by_cases h4 : 60 < l.length
    · rw [decide_eq_true h4] at ht
      rw [if_pos h4]
      exact bad _ ht
    · rw [decide_eq_false h4] at ht
      rw [if_neg h4, xseq_nx (en := nrE (.list (names.map PyData.str)) (.list l) .un .un) (by rw [xif_val ht, if_neg Bool.false_ne_true]; rfl)]
      obtain ⟨i1, i2⟩ := nr_loop C names hn l l 0 .un .un h1 (by omega)
      have hfor : xFor (iEn (aCons (eVar 1) aNil)) (tgT 2 (tgCons (tgN 2) (tgCons (tgN 3) tgNil))) (nrT C) (nrE (.list (names.map PyData.str)) (.list l) .un .un) = xfGo (tgT 2 (tgCons (tgN 2) (tgCons (tgN 3) tgNil))) (nrT C) (numD 0 l) (nrE (.list (names.map PyData.str)) (.list l) .un .un) := rfl
      cases hs : scanR names l.length l 0 with
      | some j =>
        obtain ⟨en, e⟩ := i1 j hs
        exact (congrArg outR (xseq_er (hfor.trans e))).trans rfl
      | none =>
        obtain ⟨a, b, e⟩ := i2 hs
        exact (congrArg outR (xseq_nx (hfor.trans e))).trans rfl
/-- the names of good plots -/
theorem scan_names : ∀ (l : List PyData) (ahead : List Str) (k : Nat), l.all sPair = true → scan l ahead k = none → ∀ y ∈ l.map nmOf, okN y = true ∧ PyData.strOk y = true
  | [], _, _, _, _, y, m => by cases m
  | d :: l, ahead, k, h, hs, y, m => by
    rw [List.all_cons, Bool.and_eq_true] at h
    have hs' : (if goodPair ahead d = true then scan l (ahead ++ [nmOf d]) (k + 1) else some k) = none := hs
    cases hg : goodPair ahead d with
    | false =>
      rw [hg, if_neg Bool.false_ne_true] at hs'
      cases hs'
    | true =>
      rw [hg, if_pos rfl] at hs'
      rcases List.mem_cons.mp m with rfl | m
      · obtain ⟨z, b, rfl, hz, _⟩ := good_shape hg
        have h1 : ([PyData.str z, b].all sP && decide ([PyData.str z, b].length ≤ 100)) = true := h.1
        have := List.all_eq_true.mp (Bool.and_eq_true_iff.mp h1).1 (.str z) (List.mem_cons_self ..)
        exact ⟨hz, (Bool.and_eq_true_iff.mp (show okT z = true from this)).1⟩
      · exact scan_names l _ _ h.2 hs' y m
theorem plots_names_ok {P : PyData} (h : nP P = true) (hb : badPlots P = none) : ∃ l, P = .list l ∧ l.length ≤ 12 ∧ scan l [] 0 = none ∧ ∀ y ∈ namesD P, okN y = true ∧ PyData.strOk y = true := by
  cases P with
  | list l =>
    have hB : badPlots (.list l) = if 12 < l.length then some .none else (scan l [] 0).map fun k : Nat => PyData.int (k : Int) := rfl
    rw [hB] at hb
    by_cases h4 : 12 < l.length
    · rw [if_pos h4] at hb
      cases hb
    · rw [if_neg h4, Option.map_eq_none_iff] at hb
      exact ⟨l, rfl, by omega, hb, scan_names l [] 0 (Bool.and_eq_true_iff.mp (show (l.all sPair && decide (l.length ≤ 10000)) = true from h)).1 hb⟩
  | none => cases hb
  | bool _ => cases hb
  | int _ => cases hb
  | str _ => cases hb
  | tuple _ => cases hb
  | dict _ => cases hb
def needX (CP CR : Addr) (P R : PyData) : RX := match badPlots P with
  | some d => .er (.at_ CP d)
  | none => match badRows (namesD P) R with
    | some d => .er (.at_ CR d)
    | none => .val (.bool true)
theorem m_need (CP CR : Addr) {P R : PyData} (hP : nP P = true) (hR : nR R = true) : fX_need CP CR [P, R] = some (needX CP CR P R) := by
  unfold fX_need fnX FX_need needX
  have h0 : fEnv 3 [P, R] = [.sh P, .sh R, .un] := rfl
  rw [h0]
  have e1 : (fun env : PL.Env => ((aCons (eVar 0) aNil) env).bind fun ds => if ds.length = 1 then fX_need_plots CP ds else none) [.sh P, .sh R, .un] = fX_need_plots CP [P] := rfl
  have hp := m_need_plots CP hP
  cases hb : badPlots P with
  | some d =>
    rw [hb] at hp
    have e2 : xAsg (fun env => ((aCons (eVar 0) aNil) env).bind fun ds => if ds.length = 1 then fX_need_plots CP ds else none) 2 [.sh P, .sh R, .un] = some (.er (.at_ CP d) [.sh P, .sh R, .un]) := by
      unfold xAsg
      rw [e1, hp]
      rfl
    rw [xseq_er e2]
    rfl
  | none =>
    rw [hb] at hp
    have e2 : xAsg (fun env => ((aCons (eVar 0) aNil) env).bind fun ds => if ds.length = 1 then fX_need_plots CP ds else none) 2 [.sh P, .sh R, .un] = some (.ok (.nx [.sh P, .sh R, .sh (.list ((namesD P).map PyData.str))])) := by
      unfold xAsg
      rw [e1, hp]
      rfl
    rw [xseq_nx e2]
    obtain ⟨_, _, _, _, hok⟩ := plots_names_ok hP hb
    have hr := m_need_rows CR (namesD P) (fun y m => (hok y m).2) hR
    have e3 : (fun env : PL.Env => ((aCons (eVar 2) (aCons (eVar 1) aNil)) env).bind fun ds => if ds.length = 2 then fX_need_rows CR ds else none) [.sh P, .sh R, .sh (.list ((namesD P).map PyData.str))] = fX_need_rows CR [.list ((namesD P).map PyData.str), R] := rfl
    unfold xRet
    rw [e3, hr]
    dsimp only
    cases badRows (namesD P) R <;> rfl
/-! ### the law's own checks -/
abbrev lpT : PL.Env → Option Out := (sSeq (sIf (tO (tN (tE (e1 (gIsi "tuple") (eVarO 3)))) (tO (tE (e2 gNe (eA gLen (aCons (eVarO 3) aNil)) (eC (.int 2)))) (tO (tN (tE (eA (fun ds => if ds.length = 1 then f__law_name ds else none) (aCons (e2 gIx (eVarO 3) (eC (.int 0))) aNil)))) (tE (e2 (gInL false) (e2 gIx (eVarO 3) (eC (.int 0))) (eVarO 1)))))) (sRet (eTup (aCons (eC (.bool true)) (aCons (eVar 2) aNil)))) sNext)
    (sSeq (sIf (tA (tE (e1 (gIsN true) (e2 gIx (eVarO 3) (eC (.int 1))))) (tO (tN (tE (eA (fun ds => if ds.length = 1 then f__law_name ds else none) (aCons (e2 gIx (eVarO 3) (eC (.int 1))) aNil)))) (tE (e2 (gInL true) (e2 gIx (eVarO 3) (eC (.int 1))) (eVarO 1))))) (sRet (eTup (aCons (eC (.bool true)) (aCons (eVar 2) aNil)))) sNext)
    (sApp 1 (e2 gIx (eVarO 3) (eC (.int 0))))))
theorem lp_turn (P : PyData) (ahead : List Str) (ha : ∀ y ∈ ahead, PyData.strOk y = true) (hb : ∀ y ∈ ahead, okN y = true) (hz : ahead.length ≤ 1000) (k : Int) {d : PyData} (hd : sPair d = true) :
    lpT (npE P ahead (.sh (.int k)) (.sh d)) = some (if goodPair ahead d = true then .nx (npE P (ahead ++ [nmOf d]) (.sh (.int k)) (.sh d)) else .rt (.tuple [.bool true, .int k])) := by
  have no : noD d = true → kT d = false → lpT (npE P ahead (.sh (.int k)) (.sh d)) = some (.rt (.tuple [.bool true, .int k])) := fun h1 h2 => by
    show sSeq (sIf _ _ _) _ _ = _
    rw [if_seq (tO_ev (x := true) (y := true) ((tN_ev (isi_ev (d := d) rfl (isi_t h1))).trans (by rw [h2]; rfl)) fun z => by cases z)]
    rfl
  match d, hd with
  | .none, h => rw [no rfl rfl]; rfl
  | .bool b, h => rw [no rfl rfl]; rfl
  | .int b, h => rw [no rfl rfl]; rfl
  | .str b, h => rw [no rfl rfl]; rfl
  | .list b, h => rw [no rfl rfl]; rfl
  | .dict b, h => rw [no h rfl]; rfl
  | .tuple l, h =>
    obtain ⟨h1, h2⟩ := Bool.and_eq_true_iff.mp (show (l.all sP && decide (l.length ≤ 100)) = true from h)
    have h3 := of_decide_eq_true h2
    by_cases h4 : l.length = 2
    · match l, h4, h1 with
      | [a, b], _, h1 =>
        have pa : sP a = true := List.all_eq_true.mp h1 a (List.mem_cons_self ..)
        have pb : sP b = true := List.all_eq_true.mp h1 b (List.mem_cons_of_mem _ (List.mem_cons_self ..))
        have i0 : e2 gIx (eVarO 3) (eC (.int 0)) (npE P ahead (.sh (.int k)) (.sh (.tuple [a, b]))) = some a := ixt_ev (i := ((0 : Nat) : Int)) rfl rfl (atI_nat' (n := 0) rfl)
        have i1 : e2 gIx (eVarO 3) (eC (.int 1)) (npE P ahead (.sh (.int k)) (.sh (.tuple [a, b]))) = some b := ixt_ev (i := ((1 : Nat) : Int)) rfl rfl (atI_nat' (n := 1) rfl)
        have t1 : tO (tN (tE (e1 (gIsi "tuple") (eVarO 3)))) (tO (tE (e2 gNe (eA gLen (aCons (eVarO 3) aNil)) (eC (.int 2)))) (tO (tN (tE (eA (fun ds => if ds.length = 1 then f__law_name ds else none) (aCons (e2 gIx (eVarO 3) (eC (.int 0))) aNil)))) (tE (e2 (gInL false) (e2 gIx (eVarO 3) (eC (.int 0))) (eVarO 1))))) (npE P ahead (.sh (.int k)) (.sh (.tuple [a, b]))) = some ((!isN a) || inN ahead a) := by
          rw [tO_ev (tN_ev (isi_ev (d := .tuple [a, b]) (b := true) rfl (isi_t rfl))) fun _ => tO_ev (nei_ev (lenT rfl) rfl) fun _ => tO_ev (tN_ev (vt_ev (call1_ev i0 (m_name pa).2))) fun _ => vt_ev (ins_part (neg := false) i0 rfl pa ha)]
          rfl
        have t2 : tA (tE (e1 (gIsN true) (e2 gIx (eVarO 3) (eC (.int 1))))) (tO (tN (tE (eA (fun ds => if ds.length = 1 then f__law_name ds else none) (aCons (e2 gIx (eVarO 3) (eC (.int 1))) aNil)))) (tE (e2 (gInL true) (e2 gIx (eVarO 3) (eC (.int 1))) (eVarO 1)))) (npE P ahead (.sh (.int k)) (.sh (.tuple [a, b]))) = some ((!isNon b) && ((!isN b) || !inN ahead b)) :=
          tA_ev (vt_ev (isn_ev i1 true)) fun _ => tO_ev (tN_ev (vt_ev (call1_ev i1 (m_name pb).2))) fun _ => vt_ev (ins_part (neg := true) i1 rfl pb ha)
        have hv : ((!isNon b) && ((!isN b) || !inN ahead b)) = !(isNon b || inN ahead b) := by
          cases hi : inN ahead b with
          | false => rw [Bool.not_false, Bool.or_true, Bool.and_true, Bool.or_false]
          | true => rw [inN_isN hb hi, Bool.or_true]; cases isNon b <;> rfl
        rw [hv] at t2
        have hg : goodPair ahead (.tuple [a, b]) = ((!((!isN a) || inN ahead a)) && (isNon b || inN ahead b)) := by
          show ((isN a && !inN ahead a) && (isNon b || inN ahead b)) = _
          cases isN a <;> cases inN ahead a <;> rfl
        show sSeq (sIf _ _ _) _ _ = _
        rw [if_seq t1]
        cases hx : ((!isN a) || inN ahead a) with
        | true => rw [hg, hx]; rfl
        | false =>
          rw [if_neg Bool.false_ne_true, next_seq, if_seq t2]
          cases hy : (isNon b || inN ahead b) with
          | false => rw [hg, hy, Bool.and_false]; rfl
          | true =>
            have hgt : goodPair ahead (.tuple [a, b]) = true := by rw [hg, hx, hy]; rfl
            obtain ⟨z, b', e, _, _⟩ := good_shape hgt
            cases e
            rw [hgt, if_pos rfl, Bool.not_true, if_neg Bool.false_ne_true, next_seq]
            have ha2 : sApp 1 (e2 gIx (eVarO 3) (eC (.int 0))) (npE P ahead (.sh (.int k)) (.sh (.tuple [.str z, b]))) = _ := app_nx (i := 1) (ds := ahead.map PyData.str) (d := .str z) rfl i0 (by rw [List.length_map]; omega)
            rw [ha2]
            show some (Out.nx [.sh P, .own (ahead.map PyData.str ++ [.str z]), _, _]) = _
            rw [show ahead.map PyData.str ++ [PyData.str z] = (ahead ++ [z]).map PyData.str by rw [List.map_append]; rfl]
            rfl
    · rw [not_two h4, if_neg Bool.false_ne_true]
      show sSeq (sIf _ _ _) _ _ = _
      rw [if_seq (tO_ev (x := false) (y := true) (tN_ev (isi_ev (d := .tuple l) (b := true) rfl (isi_t rfl))) fun _ => tO_ev (x := true) (y := true) ((nei_ev (lenT rfl) rfl).trans (by rw [decide_eq_false (by omega)]; rfl)) fun z => by cases z)]
      rfl
theorem lp_loop (P : PyData) : ∀ (l : List PyData) (ahead : List Str) (k : Nat) (s2 s3 : Sl), l.all sPair = true → (∀ y ∈ ahead, PyData.strOk y = true) → (∀ y ∈ ahead, okN y = true) → ahead.length + l.length ≤ 1000 →
    ∃ s1' s2' s3', fGo (tgT 2 (tgCons (tgN 2) (tgCons (tgN 3) tgNil))) lpT (numD k l) (npE P ahead s2 s3) = some (match scan l ahead k with | some j => .rt (.tuple [.bool true, .int (j : Int)]) | none => .nx [.sh P, s1', s2', s3'])
  | [], ahead, k, s2, s3, _, _, _, _ => ⟨_, s2, s3, rfl⟩
  | d :: l, ahead, k, s2, s3, h, ha, hb, hz => by
    rw [List.all_cons, Bool.and_eq_true] at h
    rw [List.length_cons] at hz
    have t := lp_turn P ahead ha hb (by omega) (k : Int) h.1
    have hc : numD k (d :: l) = .tuple [.int (k : Int), d] :: numD (k + 1) l := rfl
    rw [hc]
    have hs : scan (d :: l) ahead k = if goodPair ahead d = true then scan l (ahead ++ [nmOf d]) (k + 1) else some k := rfl
    rw [hs]
    cases hg : goodPair ahead d with
    | true =>
      rw [hg, if_pos rfl] at t
      obtain ⟨z, b, rfl, hz2, _⟩ := good_shape hg
      have hzs : PyData.strOk z = true := by
        have h1 : ([PyData.str z, b].all sP && decide ([PyData.str z, b].length ≤ 100)) = true := h.1
        have := List.all_eq_true.mp (Bool.and_eq_true_iff.mp h1).1 (.str z) (List.mem_cons_self ..)
        exact (Bool.and_eq_true_iff.mp (show okT z = true from this)).1
      obtain ⟨a, b', c, e⟩ := lp_loop P l (ahead ++ [z]) (k + 1) (.sh (.int (k : Int))) (.sh (.tuple [.str z, b])) h.2 (fun y m => by
        rcases List.mem_append.mp m with m | m
        · exact ha y m
        · rw [List.mem_singleton.mp m]; exact hzs) (fun y m => by
        rcases List.mem_append.mp m with m | m
        · exact hb y m
        · rw [List.mem_singleton.mp m]; exact hz2) (by rw [List.length_append, List.length_singleton]; omega)
      refine ⟨a, b', c, ?_⟩
      rw [if_pos rfl]
      exact (fgo_nx (e1 := npE P ahead (.sh (.int (k : Int))) (.sh (.tuple [.str z, b]))) rfl t).trans e
    | false =>
      rw [hg, if_neg Bool.false_ne_true] at t
      refine ⟨.un, .un, .un, ?_⟩
      rw [if_neg Bool.false_ne_true]
      exact fgo_rt (e1 := npE P ahead (.sh (.int (k : Int))) (.sh d)) rfl t
def verD : Option PyData → PyData
  | some d => .tuple [.bool true, d]
  | none => .tuple [.bool false, .none]
theorem m_bad_pair {P : PyData} (h : nP P = true) : f__law_bad_pair [P] = some (verD (badPlots P)) := by
  unfold f__law_bad_pair fnD F__law_bad_pair
  have h0 : fEnv 4 [P] = [.sh P, .un, .un, .un] := rfl
  rw [h0]
  have bad : ∀ G, tO (tN (tE (e1 (gIsi "list") (eVarO 0)))) (tE (e2 (gB fun i j => decide (j < i)) (eA gLen (aCons (eVarO 0) aNil)) (eC (.int 12)))) [.sh P, .un, .un, .un] = some true → outD (sSeq (sIf (tO (tN (tE (e1 (gIsi "list") (eVarO 0)))) (tE (e2 (gB fun i j => decide (j < i)) (eA gLen (aCons (eVarO 0) aNil)) (eC (.int 12))))) (sRet (eTup (aCons (eC (.bool true)) (aCons (eC .none) aNil)))) sNext) G [.sh P, .un, .un, .un]) = some (.tuple [.bool true, .none]) := fun G ht => by
    rw [if_seq ht]
    rfl
  have nl : noD P = true → kL P = false → tO (tN (tE (e1 (gIsi "list") (eVarO 0)))) (tE (e2 (gB fun i j => decide (j < i)) (eA gLen (aCons (eVarO 0) aNil)) (eC (.int 12)))) [.sh P, .un, .un, .un] = some true := fun h1 h2 => (tO_ev (x := true) (y := true) ((tN_ev (isi_ev (d := P) rfl (isi_l h1))).trans (by rw [h2]; rfl)) fun z => by cases z)
  match P, h with
  | .none, h => exact bad _ (nl rfl rfl)
  | .bool b, h => exact bad _ (nl rfl rfl)
  | .int b, h => exact bad _ (nl rfl rfl)
  | .str b, h => exact bad _ (nl rfl rfl)
  | .tuple b, h => exact bad _ (nl rfl rfl)
  | .dict b, h => exact bad _ (nl h rfl)
  | .list l, h =>
    obtain ⟨h1, h2⟩ := Bool.and_eq_true_iff.mp (show (l.all sPair && decide (l.length ≤ 10000)) = true from h)
    have h3 := of_decide_eq_true h2
    have ht : tO (tN (tE (e1 (gIsi "list") (eVarO 0)))) (tE (e2 (gB fun i j => decide (j < i)) (eA gLen (aCons (eVarO 0) aNil)) (eC (.int 12)))) [.sh (.list l), .un, .un, .un] = some (decide (12 < l.length)) := by
      rw [tO_ev (tN_ev (isi_ev (d := .list l) (b := true) rfl (isi_l rfl))) fun _ => gt_ev (lenl_ev rfl) rfl]
      rw [Bool.not_true, Bool.false_or]
      congr 1
      exact decide_eq_decide.mpr (by omega)
    have hB : badPlots (.list l) = if 12 < l.length then some .none else (scan l [] 0).map fun k : Nat => PyData.int (k : Int) := rfl
    rw [hB]
    by_cases h4 : 12 < l.length
    · rw [decide_eq_true h4] at ht
      rw [if_pos h4]
      exact bad _ ht
    · rw [decide_eq_false h4] at ht
      rw [if_neg h4, if_seq ht, if_neg Bool.false_ne_true, next_seq]
      have own : sOwn (nLst aNil) 1 [.sh (.list l), .un, .un, .un] = some (.nx (npE (.list l) [] .un .un)) := rfl
      rw [seq_nx own]
      obtain ⟨a, b, c, e⟩ := lp_loop (.list l) l [] 0 .un .un h1 (fun y m => by cases m) (fun y m => by cases m) (by rw [List.length_nil]; omega)
      have hfor : sFor (iEn (aCons (eVar 0) aNil)) (tgT 2 (tgCons (tgN 2) (tgCons (tgN 3) tgNil))) lpT (npE (.list l) [] .un .un) = fGo (tgT 2 (tgCons (tgN 2) (tgCons (tgN 3) tgNil))) lpT (numD 0 l) (npE (.list l) [] .un .un) := rfl
      cases hs : scan l [] 0 with
      | some j =>
        rw [hs] at e
        exact (congrArg outD (seq_rt (hfor.trans e))).trans rfl
      | none =>
        rw [hs] at e
        exact (congrArg outD (seq_nx (hfor.trans e))).trans rfl
end K01
namespace K01
open PX PySem L2 PySem.Spec PyProof.Rows PL PR
/-! _law_bad_row, _law_said. -/
abbrev lrE (P R N : PyData) (s3 s4 s5 s6 : Sl) : PL.Env := [.sh P, .sh R, .sh N, s3, s4, s5, s6]
abbrev lrT : PL.Env → Option Out := (sIf (tN (tE (eA (fun ds => if ds.length = 3 then f__law_good_row ds else none) (aCons (eVar 4) (aCons (eVar 2) (aCons (eA gLen (aCons (eVarO 1) aNil)) aNil)))))) (sRet (eTup (aCons (eC (.bool true)) (aCons (eVar 3) aNil)))) sNext)
theorem lr_loop (P : PyData) (names : List Str) (hn : ∀ y ∈ names, PyData.strOk y = true) (hk : ∀ y ∈ names, okN y = true) (all : List PyData) (s5 s6 : Sl) : ∀ (l : List PyData) (k : Nat) (s3 s4 : Sl), l.all sR = true →
    ∃ s3' s4', fGo (tgT 2 (tgCons (tgN 3) (tgCons (tgN 4) tgNil))) lrT (numD k l) (lrE P (.list all) (.list (names.map PyData.str)) s3 s4 s5 s6) = some (match scanR names all.length l k with | some j => .rt (.tuple [.bool true, .int (j : Int)]) | none => .nx (lrE P (.list all) (.list (names.map PyData.str)) s3' s4' s5 s6))
  | [], k, s3, s4, _ => ⟨s3, s4, rfl⟩
  | d :: l, k, s3, s4, h => by
    rw [List.all_cons, Bool.and_eq_true] at h
    have ht : tN (tE (eA (fun ds => if ds.length = 3 then f__law_good_row ds else none) (aCons (eVar 4) (aCons (eVar 2) (aCons (eA gLen (aCons (eVarO 1) aNil)) aNil))))) (lrE P (.list all) (.list (names.map PyData.str)) (.sh (.int (k : Int))) (.sh d) s5 s6) = some (!goodRow names all.length d) :=
      tN_ev (vt_ev (call3_ev (x := d) rfl (y := .list (names.map PyData.str)) rfl (u := .int (all.length : Int)) (lenl_ev rfl) (m_good_row h.1 names hn hk all.length)))
    have hc : numD k (d :: l) = .tuple [.int (k : Int), d] :: numD (k + 1) l := rfl
    have hs : scanR names all.length (d :: l) k = if goodRow names all.length d = true then scanR names all.length l (k + 1) else some k := rfl
    rw [hc, hs]
    cases hg : goodRow names all.length d with
    | true =>
      obtain ⟨a, b, e⟩ := lr_loop P names hn hk all s5 s6 l (k + 1) (.sh (.int (k : Int))) (.sh d) h.2
      refine ⟨a, b, ?_⟩
      rw [if_pos rfl]
      exact (fgo_nx (e1 := lrE P (.list all) (.list (names.map PyData.str)) (.sh (.int (k : Int))) (.sh d) s5 s6) (e2 := lrE P (.list all) (.list (names.map PyData.str)) (.sh (.int (k : Int))) (.sh d) s5 s6) rfl (by show sIf _ _ _ _ = _; rw [if_no (ht.trans (by rw [hg]; rfl))]; rfl)).trans e
    | false =>
      refine ⟨s3, s4, ?_⟩
      rw [if_neg Bool.false_ne_true]
      exact fgo_rt (e1 := lrE P (.list all) (.list (names.map PyData.str)) (.sh (.int (k : Int))) (.sh d) s5 s6) rfl (by show sIf _ _ _ _ = _; rw [if_yes (ht.trans (by rw [hg]; rfl))]; rfl)
/-- good plots are pairs -/
theorem scan_pairs : ∀ (l : List PyData) (ahead : List Str) (k : Nat), scan l ahead k = none → ∀ d ∈ l, ∃ z b, d = .tuple [.str z, b]
  | [], _, _, _, d, m => by cases m
  | x :: l, ahead, k, hs, d, m => by
    have hs' : (if goodPair ahead x = true then scan l (ahead ++ [nmOf x]) (k + 1) else some k) = none := hs
    cases hg : goodPair ahead x with
    | false =>
      rw [hg, if_neg Bool.false_ne_true] at hs'
      cases hs'
    | true =>
      rw [hg, if_pos rfl] at hs'
      rcases List.mem_cons.mp m with rfl | m
      · obtain ⟨z, b, e, _, _⟩ := good_shape hg
        exact ⟨z, b, e⟩
      · exact scan_pairs l _ _ hs' d m
theorem m_bad_row {P R : PyData} (hP : nP P = true) (hb : badPlots P = none) (hR : nR R = true) : f__law_bad_row [P, R] = some (verD (badRows (namesD P) R)) := by
  obtain ⟨pl, rfl, hpl, hsc, hok⟩ := plots_names_ok hP hb
  have hn : ∀ y ∈ namesD (.list pl), PyData.strOk y = true := fun y m => (hok y m).2
  have hk : ∀ y ∈ namesD (.list pl), okN y = true := fun y m => (hok y m).1
  unfold f__law_bad_row fnD F__law_bad_row
  have h0 : fEnv 7 [.list pl, R] = [.sh (.list pl), .sh R, .un, .un, .un, .un, .un] := rfl
  rw [h0]
  have bad : ∀ G, tO (tN (tE (e1 (gIsi "list") (eVarO 1)))) (tE (e2 (gB fun i j => decide (j < i)) (eA gLen (aCons (eVarO 1) aNil)) (eC (.int 60)))) [.sh (.list pl), .sh R, .un, .un, .un, .un, .un] = some true → outD (sSeq (sIf (tO (tN (tE (e1 (gIsi "list") (eVarO 1)))) (tE (e2 (gB fun i j => decide (j < i)) (eA gLen (aCons (eVarO 1) aNil)) (eC (.int 60))))) (sRet (eTup (aCons (eC (.bool true)) (aCons (eC .none) aNil)))) sNext) G [.sh (.list pl), .sh R, .un, .un, .un, .un, .un]) = some (.tuple [.bool true, .none]) := fun G ht => by
    rw [if_seq ht]
    rfl
  have nl : noD R = true → kL R = false → tO (tN (tE (e1 (gIsi "list") (eVarO 1)))) (tE (e2 (gB fun i j => decide (j < i)) (eA gLen (aCons (eVarO 1) aNil)) (eC (.int 60)))) [.sh (.list pl), .sh R, .un, .un, .un, .un, .un] = some true := fun h1 h2 => (tO_ev (x := true) (y := true) ((tN_ev (isi_ev (d := R) rfl (isi_l h1))).trans (by rw [h2]; rfl)) fun z => by cases z)
  match R, hR with
  | .none, h => exact bad _ (nl rfl rfl)
  | .bool b, h => exact bad _ (nl rfl rfl)
  | .int b, h => exact bad _ (nl rfl rfl)
  | .str b, h => exact bad _ (nl rfl rfl)
  | .tuple b, h => exact bad _ (nl rfl rfl)
  | .dict b, h => exact bad _ (nl h rfl)
  | .list l, h =>
    obtain ⟨h1, h2⟩ := Bool.and_eq_true_iff.mp (show (l.all sR && decide (l.length ≤ 10000)) = true from h)
    have h3 := of_decide_eq_true h2
    have ht : tO (tN (tE (e1 (gIsi "list") (eVarO 1)))) (tE (e2 (gB fun i j => decide (j < i)) (eA gLen (aCons (eVarO 1) aNil)) (eC (.int 60)))) [.sh (.list pl), .sh (.list l), .un, .un, .un, .un, .un] = some (decide (60 < l.length)) := by
      rw [tO_ev (tN_ev (isi_ev (d := .list l) (b := true) rfl (isi_l rfl))) fun _ => gt_ev (lenl_ev rfl) rfl]
      rw [Bool.not_true, Bool.false_or]
      congr 1
      exact decide_eq_decide.mpr (by omega)
    have hB : badRows (namesD (.list pl)) (.list l) = if 60 < l.length then some .none else (scanR (namesD (.list pl)) l.length l 0).map fun k : Nat => PyData.int (k : Int) := rfl
    rw [hB]
    by_cases h4 : 60 < l.length
    · rw [decide_eq_true h4] at ht
      rw [if_pos h4]
      exact bad _ ht
    · rw [decide_eq_false h4] at ht
      rw [if_neg h4, if_seq ht, if_neg Bool.false_ne_true, next_seq]
      have hlc : nLc (iLS (eVarO 0)) (tgT 2 (tgCons (tgN 5) (tgCons (tgN 6) tgNil))) (fun _ => some true) (eVar 5) [5, 6] [.sh (.list pl), .sh (.list l), .un, .un, .un, .un, .un] = some ((namesD (.list pl)).map PyData.str) := by
        have hi : iLS (eVarO 0) [.sh (.list pl), .sh (.list l), .un, .un, .un, .un, .un] = some pl := rfl
        unfold nLc
        rw [hi, Option.bind_some, if_pos (by omega)]
        rw [lc_all (fun d => match d with | .tuple [a, b] => [.sh (.list pl), .sh (.list l), .un, .un, .un, .sh a, .sh b] | _ => []) (fun d => .str (nmOf d))]
        · show some (pl.map fun d => PyData.str (nmOf d)) = some ((pl.map nmOf).map PyData.str)
          rw [List.map_map]
          rfl
        · intro d m
          obtain ⟨z, b, rfl⟩ := scan_pairs pl [] 0 hsc d m
          rfl
        · intro d m
          obtain ⟨z, b, rfl⟩ := scan_pairs pl [] 0 hsc d m
          rfl
      rw [seq_nx (own_nx hlc), free_ev rfl]
      dsimp only [List.set]
      obtain ⟨a, b, e⟩ := lr_loop (.list pl) (namesD (.list pl)) hn hk l .un .un l 0 .un .un h1
      have hfor : sFor (iEn (aCons (eVar 1) aNil)) (tgT 2 (tgCons (tgN 3) (tgCons (tgN 4) tgNil))) lrT (lrE (.list pl) (.list l) (.list ((namesD (.list pl)).map PyData.str)) .un .un .un .un) = fGo (tgT 2 (tgCons (tgN 3) (tgCons (tgN 4) tgNil))) lrT (numD 0 l) (lrE (.list pl) (.list l) (.list ((namesD (.list pl)).map PyData.str)) .un .un .un .un) := rfl
      cases hs : scanR (namesD (.list pl)) l.length l 0 with
      | some j =>
        rw [hs] at e
        exact (congrArg outD (seq_rt (hfor.trans e))).trans rfl
      | none =>
        rw [hs] at e
        exact (congrArg outD (seq_nx (hfor.trans e))).trans rfl
/-- what the law hears -/
def saidD (P R : PyData) : PyData := match badPlots P with
  | some d => .tuple [.str "plots", d]
  | none => match badRows (namesD P) R with
    | some d => .tuple [.str "rows", d]
    | none => .tuple [.str "fine", .bool true]
theorem m_said (CP CR : Addr) (hne : CR ≠ CP) (k : Int) {P R : PyData} (hP : nP P = true) (hR : nR R = true) : f__law_said CP CR [.int k, P, R] = some (saidD P R) := by
  unfold f__law_said fnD F__law_said
  have h0 : fEnv 4 [.int k, P, R] = [.sh (.int k), .sh P, .sh R, .un] := rfl
  rw [h0]
  have hx : xTupF "fine" (fun env => ((aCons (eVar 1) (aCons (eVar 2) aNil)) env).bind fun ds => if ds.length = 2 then fX_need CP CR ds else none) [.sh (.int k), .sh P, .sh R, .un] = (match needX CP CR P R with
      | .val d => some (.val (.tuple [.str "fine", d]))
      | .any => none
      | .er e => some (.er e)) := by
    unfold xTupF
    have e1 : (fun env : PL.Env => ((aCons (eVar 1) (aCons (eVar 2) aNil)) env).bind fun ds => if ds.length = 2 then fX_need CP CR ds else none) [.sh (.int k), .sh P, .sh R, .un] = fX_need CP CR [P, R] := rfl
    rw [e1, m_need CP CR hP hR, Option.bind_some]
    try rfl
  have ht : sTry (xRet (xTupF "fine" (fun env => ((aCons (eVar 1) (aCons (eVar 2) aNil)) env).bind fun ds => if ds.length = 2 then fX_need CP CR ds else none))) (hS CP CR 3) [.sh (.int k), .sh P, .sh R, .un] = some (.rt (saidD P R)) := by
    unfold sTry xRet
    rw [hx]
    unfold needX saidD
    cases badPlots P with
    | some d =>
      show hS CP CR 3 (.at_ CP d) [.sh (.int k), .sh P, .sh R, .un] = _
      unfold hS
      rw [if_neg (by show ¬ 4 ≤ 3; omega)]
      dsimp only
      rw [if_pos rfl]
    | none =>
      cases badRows (namesD P) R with
      | some d =>
        show hS CP CR 3 (.at_ CR d) [.sh (.int k), .sh P, .sh R, .un] = _
        unfold hS
        rw [if_neg (by show ¬ 4 ≤ 3; omega)]
        dsimp only
        rw [if_neg hne, if_pos rfl]
      | none => rfl
  by_cases hk : k = 0
  · rw [if_seq (eqi_ev (i := k) (j := 0) rfl rfl), decide_eq_true hk, if_pos rfl, seq_rt ht]
    rfl
  · rw [if_seq (eqi_ev (i := k) (j := 0) rfl rfl), decide_eq_false hk, if_neg Bool.false_ne_true, next_seq, ht]
    rfl
end K01
namespace K01
open PX PySem L2 PySem.Spec PyProof.Rows PL PR
/-! The names' lengths; signs; the odd pairs. -/
theorem callT_len (t : Int) (n : Nat) : (callT t n).length = n := by unfold callT; rw [List.length_map, List.length_range]
theorem callL_len (c : Int) (k : Nat) (sg : List Nat) (h : 1 ≤ sg.length ∧ sg.length ≤ 8) : 1 ≤ (callL c k sg).length ∧ (callL c k sg).length ≤ 8 := by
  unfold callL
  simp only [List.length_append, List.length_take, List.length_drop, callT_len]
  have h1 := Int.emod_nonneg ((c + 31 * (k : Int) * (c % 2)) / 26) (show (9 - (sg.length : Int)) ≠ 0 by omega)
  have h2 := Int.emod_lt_of_pos ((c + 31 * (k : Int) * (c % 2)) / 26) (show (0 : Int) < 9 - (sg.length : Int) by omega)
  generalize (c + 31 * (k : Int) * (c % 2)) / 26 % (9 - (sg.length : Int)) = n at *
  generalize (if c % 2 = 0 then (c / 4 % ((n.toNat : Int) + 1)).toNat else n.toNat) = p
  omega
theorem okT_callL (c : Int) (k : Nat) (sg : List Nat) (h : 1 ≤ sg.length ∧ sg.length ≤ 8) (hs : ∀ x ∈ sg, 97 ≤ x ∧ x ≤ 122) : okT ⟨(callL c k sg).toArray⟩ = true := by
  have h2 := callL_len c k sg h
  have h1 : (⟨(callL c k sg).toArray⟩ : Str).length = (callL c k sg).length := (cs_len _).symm
  unfold okT
  rw [strOk_of (z := ⟨(callL c k sg).toArray⟩) (callL_low hs), Bool.true_and]
  exact decide_eq_true (by rw [h1]; omega)
theorem okT_nameM (ns : List Int) (k : Nat) (h : k < 26) : okT (nameM ns k) = true := okT_callL _ _ _ (by show 1 ≤ 1 ∧ 1 ≤ 8; omega) fun x m => by
  rw [List.mem_singleton] at m
  omega
theorem okT_nmM (c : Int) (k : Nat) (h : k < 78) : okT (nmM c k) = true := okT_callL _ _ _ (by show 1 ≤ 2 ∧ 2 ≤ 8; omega) fun x m => by
  simp only [List.mem_cons, List.not_mem_nil, or_false] at m
  omega
theorem plots_okT (ns : List Int) : ∀ x ∈ (plotsM ns).map (·.1), okT x = true := by
  intro x m
  rw [plots_names] at m
  obtain ⟨k, mk, rfl⟩ := List.mem_map.mp m
  rw [List.mem_range] at mk
  have := manyM_le ns
  exact okT_nameM ns k (by omega)
theorem plots_outT (ns : List Int) : ∀ q ∈ plotsM ns, okT q.1 = true ∧ ∀ o, q.2 = some o → okT o = true := by
  intro q m
  refine ⟨plots_okT ns _ (List.mem_map_of_mem m), fun o e => ?_⟩
  obtain ⟨k, mk, rfl⟩ := List.mem_map.mp m
  rw [List.mem_range] at mk
  have h := manyM_le ns
  have e' : (if pickM ns k < k then some (nameM ns (pickM ns k).toNat) else none) = some o := e
  have hp := pickM_nn ns k
  split at e'
  · cases e'
    exact okT_nameM ns _ (by omega)
  · cases e'
theorem names_okT (ns : List Int) : ∀ x ∈ namesM ns, okT x = true := by
  intro x m
  unfold namesM at m
  split at m
  · exact plots_okT ns x (List.mem_of_mem_take m)
  · obtain ⟨k, mk, rfl⟩ := List.mem_map.mp m
    rw [List.mem_range] at mk
    have := nmany_le (ns.getD 2 0)
    exact okT_nmM _ k (by omega)
theorem atI_mod {α : Type} (l : List α) (h : 0 < l.length) (c : Int) : ∃ x ∈ l, atI l (c % (l.length : Int)) = some x := by
  have h1 := Int.emod_nonneg c (show (l.length : Int) ≠ 0 by omega)
  have h2 := Int.emod_lt_of_pos c (show (0 : Int) < (l.length : Int) by omega)
  have hk : (c % (l.length : Int)).toNat < l.length := by omega
  refine ⟨l[(c % (l.length : Int)).toNat], List.getElem_mem hk, ?_⟩
  have := atI_nat' (l := l) (n := (c % (l.length : Int)).toNat) (List.getElem?_eq_getElem hk)
  rw [Int.toNat_of_nonneg h1] at this
  exact this
theorem m_sign (c : Int) : ∃ x : Nat, x < 128 ∧ f__law_sign [.int c] = some (.str ⟨#[x]⟩) := by
  unfold f__law_sign fnD F__law_sign
  have h0 : fEnv 2 [PyData.int c] = [.sh (.int c), .un] := rfl
  rw [h0, seq_asg rfl]
  dsimp only [List.set]
  generalize hz : (Str.ofString " !\"#$&'()*+,-./0123456789:;<=>?@ABCDEFGHIJKLMNOPQRSTUVWXYZ[\\]^_`{|}~\n\t") = z
  have h1 : 0 < z.cps.toList.length := by rw [← hz]; decide +kernel
  have h2 : z.cps.toList.all (fun x => decide (x < 128)) = true := by rw [← hz]; decide +kernel
  have h3 : z.length = z.cps.toList.length := by simp [Str.length]
  have h4 : z.length ≤ 100000 := by rw [← hz]; decide +kernel
  obtain ⟨x, mx, hx⟩ := atI_mod z.cps.toList h1 c
  refine ⟨x, of_decide_eq_true (List.all_eq_true.mp h2 x mx), ?_⟩
  rw [rt1_ev (strix_ev (z := z) (i := c % (z.cps.toList.length : Int)) rfl (by
    have hl : eA gLen (aCons (eVarO 1) aNil) [.sh (.int c), .sh (.str z)] = some (.int (z.length : Int)) := lent_ev rfl h4
    rw [h3] at hl
    exact mod_ev rfl hl (by omega)) h4 hx)]
  rfl
theorem okT_sign {x : Nat} (h : x < 128) : okT ⟨#[x]⟩ = true := by
  unfold okT PyData.strOk
  have : ((#[x] : Array Nat).all fun c => decide (c < 1114112)) = true := by simp; omega
  rw [show (⟨#[x]⟩ : Str).cps = #[x] from rfl, this]
  rfl
theorem okT_asb {x : Nat} (h : x < 128) : okT (((Str.ofString "a") ++ (⟨#[x]⟩ : Str)) ++ (Str.ofString "b")) = true := by
  have e : cs (((Str.ofString "a") ++ (⟨#[x]⟩ : Str)) ++ (Str.ofString "b")) = [97, x, 98] := by
    rw [cs_app, cs_app]
    rfl
  unfold okT
  rw [Bool.and_eq_true]
  constructor
  · unfold PyData.strOk
    rw [Array.all_eq_true_iff_forall_mem]
    intro y m
    have : y ∈ cs (((Str.ofString "a") ++ (⟨#[x]⟩ : Str)) ++ (Str.ofString "b")) := by unfold cs; simpa using m
    rw [e] at this
    simp only [List.mem_cons, List.not_mem_nil, or_false] at this
    exact decide_eq_true (by omega)
  · refine decide_eq_true ?_
    rw [← cs_len, e]
    show 3 ≤ 1000
    decide
/-- things that may stand in a list of plots; .. of rows -/
def cP (d : PyData) : Bool := sPair d && okS 6 d
def cR (d : PyData) : Bool := sR d && okS 6 d
theorem cP_p {q : Str × Option Str} (h : okT q.1 = true) (h2 : ∀ o, q.2 = some o → okT o = true) : cP (encP q) = true := by
  obtain ⟨z, o⟩ := q
  have h' : okT z = true := h
  cases o with
  | none => simp [cP, sPair, encP, optD, sP, h', okS]
  | some y => simp [cP, sPair, encP, optD, sP, h', h2 y rfl, okS]
end K01
namespace K01
open PX PySem L2 PySem.Spec PyProof.Rows PL PR
/-! The odd pairs and the odd rows. -/
theorem t_q : okT "q" = true := by decide +kernel
theorem t_zz : okT "zz" = true := by decide +kernel
theorem t_e : okT "" = true := by decide +kernel
theorem t_aB : okT "aB" = true := by decide +kernel
theorem t_9 : okT "abcdefghi" = true := by decide +kernel
theorem t_8 : okT "abcdefgh" = true := by decide +kernel
theorem t_a1 : okT "a1" = true := by decide +kernel
theorem t_qq : okT "qq" = true := by decide +kernel
theorem t_3 : okT "3" = true := by decide +kernel
theorem t_1 : okT "1" = true := by decide +kernel
theorem h_hop : sH (.str "hop") = true := by decide +kernel
theorem h_open : sH (.str "open") = true := by decide +kernel
theorem h_lay : sH (.str "lay") = true := by decide +kernel
theorem h_fork : sH (.str "fork") = true := by decide +kernel
theorem h_go : sH (.str "go") = true := by decide +kernel
theorem h_end : sH (.str "end") = true := by decide +kernel
theorem h_tell : sH (.str "tell") = true := by decide +kernel
theorem h_same : sH (.str "same") = true := by decide +kernel
theorem h_copy : sH (.str "copy") = true := by decide +kernel
theorem h_add : sH (.str "add") = true := by decide +kernel
theorem h_give : sH (.str "give") = true := by decide +kernel
theorem h_none : sH .none = true := rfl
theorem h_list (l : List PyData) : sH (.list l) = true := rfl
theorem h_dict : sH (.dict []) = true := rfl
theorem at_last {α : Type} (l : List α) (h : 0 < l.length) : ∃ x ∈ l, atI l (-1) = some x := by
  have hk : l.length - 1 < l.length := by omega
  refine ⟨l[l.length - 1], List.getElem_mem hk, ?_⟩
  unfold atI ixN
  rw [if_neg (by omega), if_pos (by omega), Option.bind_some, show ((-1 : Int) + (l.length : Int)).toNat = l.length - 1 by omega, List.getElem?_eq_getElem hk]
theorem name_at {ps : List (Str × Option Str)} {a b : PL.Env → Option PyData} {env : PL.Env} {i : Int} {q : Str × Option Str} (ha : a env = some (encPs ps)) (hb : b env = some (.int i)) (h : atI ps i = some q) : e2 gIx (e2 gIx a b) (eC (.int 0)) env = some (.str q.1) := by
  have h1 : atI (ps.map encP) i = some (encP q) := by
    unfold atI at h ⊢
    rw [List.length_map]
    cases hx : ixN ps.length i with
    | none => rw [hx] at h; cases h
    | some j =>
      rw [hx, Option.bind_some] at h
      rw [Option.bind_some, List.getElem?_map, h]
      rfl
  exact ixt_ev (ds := [.str q.1, optD q.2]) (i := ((0 : Nat) : Int)) (ix_ev (ds := ps.map encP) ha hb h1) rfl (atI_nat' (n := 0) rfl)
theorem m_pair (ps : List (Str × Option Str)) (hp : ∀ q ∈ ps, okT q.1 = true) (i : Nat) (hi : i < ps.length) (c : Int) : ∃ d, f__law_pair [.int c, encPs ps, .int (i : Int)] = some d ∧ cP d = true := by
  unfold f__law_pair fnD F__law_pair
  have h0 : fEnv 8 [.int c, encPs ps, .int (i : Int)] = [.sh (.int c), .sh (encPs ps), .sh (.int (i : Int)), .un, .un, .un, .un, .un] := rfl
  rw [h0]
  have a1 : atI ps (i : Int) = some ps[i] := atI_nat' (List.getElem?_eq_getElem hi)
  have hz : 0 < ps.length := by omega
  have a2 : atI ps 0 = some ps[0] := atI_nat' (n := 0) (List.getElem?_eq_getElem hz)
  obtain ⟨ql, ml, a3⟩ := at_last ps hz
  have o1 := hp _ (List.getElem_mem hi)
  have o2 := hp _ (List.getElem_mem hz)
  have o3 := hp _ ml
  generalize ps[i] = q1 at a1 o1
  generalize ps[0] = q2 at a2 o2
  rw [seq_asg (name_at rfl rfl a1)]
  dsimp only [List.set]
  rw [seq_asg (name_at rfl rfl a2)]
  dsimp only [List.set]
  rw [seq_asg (name_at (i := -1) rfl rfl a3)]
  dsimp only [List.set]
  obtain ⟨x, hx, hs⟩ := m_sign (c / 21)
  have o4 := okT_sign hx
  have o5 := okT_asb hx
  generalize q1.1 = n1 at *
  generalize q2.1 = n2 at *
  generalize ql.1 = n3 at *
  rw [seq_nx (own_nx (ds := [.tuple [.str n1, .none], .tuple [.str n1, .str n2], .tuple [.str n1, .str n3], .tuple [.str n1, .str n1], .tuple [.str n3, .none], .tuple [.str "q", .str "zz"], .tuple [.str "", .none]]) rfl)]
  dsimp only [List.set]
  rw [seq_nx (ext_nx (i := 6) (es := [.tuple [.str "aB", .none], .tuple [.str "abcdefghi", .none], .tuple [.str "abcdefgh", .none], .list [.str "q", .none], .tuple [.str "q"], .tuple [.int 5, .none], .none]) rfl rfl (by show 7 + 7 ≤ 100000; decide))]
  dsimp only [List.set]
  rw [seq_asg (call1_ev (div_ev rfl rfl (by omega)) hs)]
  dsimp only [List.set]
  generalize hL : ([.tuple [.str n1, .none], .tuple [.str n1, .str n2], .tuple [.str n1, .str n3], .tuple [.str n1, .str n1], .tuple [.str n3, .none], .tuple [.str "q", .str "zz"], .tuple [.str "", .none]] : List PyData) ++ [.tuple [.str "aB", .none], .tuple [.str "abcdefghi", .none], .tuple [.str "abcdefgh", .none], .list [.str "q", .none], .tuple [.str "q"], .tuple [.int 5, .none], .none] = L
  have hLl : L.length = 14 := by rw [← hL]; rfl
  have hLa : L.all cP = true := by
    rw [← hL]
    simp [cP, sPair, sP, okS, noD, o1, o2, o3, t_q, t_zz, t_e, t_aB, t_9, t_8]
  have hcat : e2 gAdd (e2 gAdd (eC (.str "a")) (eVarO 7)) (eC (.str "b")) [.sh (.int c), .sh (encPs ps), .sh (.int (i : Int)), .sh (.str n1), .sh (.str n2), .sh (.str n3), .own L, .sh (.str ⟨#[x]⟩)] = some (.str (((Str.ofString "a") ++ (⟨#[x]⟩ : Str)) ++ (Str.ofString "b"))) :=
    cat_ev (cat_ev (x := Str.ofString "a") (y := ⟨#[x]⟩) rfl rfl (by show 1 + 1 ≤ 100000; decide)) rfl (by rw [← cs_len, cs_app]; show 1 + 1 + 1 ≤ 100000; decide)
  have hl3 : eL (nLst (aCons (eTup (aCons (eC (.str "q")) (aCons (eC (.int 0)) aNil))) (aCons (eTup (aCons (eC (.str "q")) (aCons (eC (.str "")) aNil))) (aCons (eTup (aCons (eC (.str "a1")) (aCons (eC .none) aNil))) (aCons (eTup (aCons (e2 gAdd (e2 gAdd (eC (.str "a")) (eVarO 7)) (eC (.str "b"))) (aCons (eC .none) aNil))) (aCons (eTup (aCons (eVar 7) (aCons (eC .none) aNil))) (aCons (eTup (aCons (eL (nLst (aCons (eC (.str "q")) aNil))) (aCons (eC .none) aNil))) aNil))))))) [.sh (.int c), .sh (encPs ps), .sh (.int (i : Int)), .sh (.str n1), .sh (.str n2), .sh (.str n3), .own L, .sh (.str ⟨#[x]⟩)] = some (.list [.tuple [.str "q", .int 0], .tuple [.str "q", .str ""], .tuple [.str "a1", .none], .tuple [.str (((Str.ofString "a") ++ (⟨#[x]⟩ : Str)) ++ (Str.ofString "b")), .none], .tuple [.str ⟨#[x]⟩, .none], .tuple [.list [.str "q"], .none]]) :=
    lst_ev (acons_ev (by rfl) (acons_ev (by rfl) (acons_ev (by rfl) (acons_ev (tup2_ev hcat rfl) (acons_ev (by rfl) (acons_ev (by rfl) anil_ev)))))) (by show 6 ≤ 100000; decide)
  rw [seq_nx (ext_nx (i := 6) rfl hl3 (by rw [hLl]; show 14 + 6 ≤ 100000; decide))]
  dsimp only [List.set]
  rw [seq_nx (app_nx (i := 6) (d := .tuple [.str "q", .list [.str n1]]) rfl rfl (by rw [List.length_append, hLl]; show 14 + 6 < 100000; decide))]
  dsimp only [List.set]
  generalize hM : (L ++ [.tuple [.str "q", .int 0], .tuple [.str "q", .str ""], .tuple [.str "a1", .none], .tuple [.str (((Str.ofString "a") ++ (⟨#[x]⟩ : Str)) ++ (Str.ofString "b")), .none], .tuple [.str ⟨#[x]⟩, .none], .tuple [.list [.str "q"], .none]]) ++ [.tuple [.str "q", .list [.str n1]]] = M
  have hMl : M.length = 21 := by rw [← hM, List.length_append, List.length_append, hLl]; rfl
  have hMa : M.all cP = true := by
    rw [← hM, List.all_append, List.all_append, hLa]
    simp [cP, sPair, sP, okS, noD, o1, o4, o5, t_q, t_a1, t_e]
  obtain ⟨d, md, hd⟩ := atI_mod M (by omega) c
  rw [hMl] at hd
  refine ⟨d, ?_, List.all_eq_true.mp hMa d md⟩
  rw [rt1_ev (ix_ev (ds := M) rfl (mod_ev (i := c) (j := 21) rfl rfl (by omega)) hd)]
  rfl
theorem m_odd_row (ps : List (Str × Option Str)) (hp : ∀ q ∈ ps, okT q.1 = true) (hz : 0 < ps.length) (nms : List Str) (hn : ∀ x ∈ nms, okT x = true) (hnz : 0 < nms.length) (c : Int) (sz : Nat) : ∃ d, f__law_odd_row [.int c, encPs ps, .list (nms.map PyData.str), .int (sz : Int)] = some d ∧ cR d = true := by
  unfold f__law_odd_row fnD F__law_odd_row
  have h0 : fEnv 8 [.int c, encPs ps, .list (nms.map PyData.str), .int (sz : Int)] = [.sh (.int c), .sh (encPs ps), .sh (.list (nms.map PyData.str)), .sh (.int (sz : Int)), .un, .un, .un, .un] := rfl
  rw [h0]
  have o1 : okT (pickS nms (c / 34)) = true := hn _ (pickS_mem hnz)
  have o2 : okT (pickS (ps.map (·.1)) (c / 34)) = true := by
    obtain ⟨q, mq, e⟩ := List.mem_map.mp (pickS_mem (l := ps.map (·.1)) (i := c / 34) (by rw [List.length_map]; exact hz))
    rw [← e]
    exact hp q mq
  rw [seq_asg (pick_ev (l := nms) (i := c / 34) rfl (div_ev rfl rfl (by omega)) hnz)]
  dsimp only [List.set]
  rw [seq_asg (pickp_ev (l := ps) (i := c / 34) rfl (div_ev rfl rfl (by omega)) hz)]
  dsimp only [List.set]
  rw [seq_asg rfl]
  dsimp only [List.set]
  obtain ⟨x, hx, hs⟩ := m_sign (c / 34)
  have o5 := okT_asb hx
  generalize pickS nms (c / 34) = n1 at *
  generalize pickS (ps.map (·.1)) (c / 34) = p1 at *
  rw [seq_nx (own_nx (ds := [.tuple [.str "hop", .str n1], .tuple [.str "open"], .tuple [.str "open", .str "qq"], .list [.str "tell", .str n1], .tuple [.str "lay", .str n1, .str p1, .bool true]]) rfl)]
  dsimp only [List.set]
  rw [seq_nx (ext_nx (i := 7) (es := [.tuple [.str "lay", .str n1, .str p1, .int (1000000000000000000 + 1)], .tuple [.str "lay", .str n1, .str p1, .str "3"], .tuple [.str "fork", .int ((sz : Int) + 1)]]) rfl rfl (by show 5 + 3 ≤ 100000; decide))]
  dsimp only [List.set]
  rw [seq_nx (ext_nx (i := 7) (es := [.tuple [.str "go", .int (0 - 1)], .tuple [.str "fork", .bool true], .tuple [.str "end", .int 1], .tuple [], .str "end"]) rfl rfl (by show 8 + 5 ≤ 100000; decide))]
  dsimp only [List.set]
  rw [seq_nx (ext_nx (i := 7) (es := [.tuple [.str "tell", .str "a1"], .tuple [.str "tell", .str ""], .tuple [.str "tell", .str "abcdefghi"], .tuple [.str "same", .str n1], .tuple [.str "copy", .str n1, .str n1, .str "qq"]]) rfl rfl (by show 13 + 5 ≤ 100000; decide))]
  dsimp only [List.set]
  rw [seq_nx (ext_nx (i := 7) (es := [.tuple [.str "open", .none], .tuple [.none, .str p1], .tuple [.str "lay", .str n1, .str p1, .int (0 - 1000000000000000000 - 1)], .tuple [.str "lay", .str n1, .str p1, .int (0 - 1000000000000000000)]]) rfl rfl (by show 18 + 4 ≤ 100000; decide))]
  dsimp only [List.set]
  rw [seq_nx (ext_nx (i := 7) (es := [.tuple [.str "go", .int (sz : Int)], .tuple [.str "give", .list [.str p1]], .tuple [.str "tell", .int 5], .tuple [.str "tell", .none], .tuple [.str "tell", .list [.str n1]], .tuple [.str "fork", .str "1"]]) rfl rfl (by show 22 + 6 ≤ 100000; decide))]
  dsimp only [List.set]
  generalize hL : (((((([.tuple [.str "hop", .str n1], .tuple [.str "open"], .tuple [.str "open", .str "qq"], .list [.str "tell", .str n1], .tuple [.str "lay", .str n1, .str p1, .bool true]] : List PyData) ++ [.tuple [.str "lay", .str n1, .str p1, .int (1000000000000000000 + 1)], .tuple [.str "lay", .str n1, .str p1, .str "3"], .tuple [.str "fork", .int ((sz : Int) + 1)]]) ++ [.tuple [.str "go", .int (0 - 1)], .tuple [.str "fork", .bool true], .tuple [.str "end", .int 1], .tuple [], .str "end"]) ++ [.tuple [.str "tell", .str "a1"], .tuple [.str "tell", .str ""], .tuple [.str "tell", .str "abcdefghi"], .tuple [.str "same", .str n1], .tuple [.str "copy", .str n1, .str n1, .str "qq"]]) ++ [.tuple [.str "open", .none], .tuple [.none, .str p1], .tuple [.str "lay", .str n1, .str p1, .int (0 - 1000000000000000000 - 1)], .tuple [.str "lay", .str n1, .str p1, .int (0 - 1000000000000000000)]]) ++ [.tuple [.str "go", .int (sz : Int)], .tuple [.str "give", .list [.str p1]], .tuple [.str "tell", .int 5], .tuple [.str "tell", .none], .tuple [.str "tell", .list [.str n1]], .tuple [.str "fork", .str "1"]]) = L
  have hLl : L.length = 28 := by rw [← hL]; rfl
  have hLa : L.all cR = true := by
    rw [← hL]
    simp [cR, sR, sP, okS, noD, o1, o2, t_qq, t_3, t_1, t_a1, t_e, t_9, h_hop, h_open, h_lay, h_fork, h_go, h_end, h_tell, h_same, h_copy, h_give, h_none, h_list, h_dict]
  have hcat : e2 gAdd (e2 gAdd (eC (.str "a")) (eA (fun ds => if ds.length = 1 then f__law_sign ds else none) (aCons (e2 (gIC cDiv (· / ·)) (eVarO 0) (eC (.int 34))) aNil))) (eC (.str "b")) [.sh (.int c), .sh (encPs ps), .sh (.list (nms.map PyData.str)), .sh (.int (sz : Int)), .sh (.str n1), .sh (.str p1), .sh (.int 1000000000000000000), .own L] = some (.str (((Str.ofString "a") ++ (⟨#[x]⟩ : Str)) ++ (Str.ofString "b"))) :=
    cat_ev (cat_ev (x := Str.ofString "a") (y := ⟨#[x]⟩) rfl (call1_ev (div_ev rfl rfl (by omega)) hs) (by show 1 + 1 ≤ 100000; decide)) rfl (by rw [← cs_len, cs_app]; show 1 + 1 + 1 ≤ 100000; decide)
  have hl3 : eL (nLst (aCons (eTup (aCons (eC (.str "go")) (aCons (eC .none) aNil))) (aCons (eTup (aCons (eC (.str "tell")) (aCons (e2 gAdd (e2 gAdd (eC (.str "a")) (eA (fun ds => if ds.length = 1 then f__law_sign ds else none) (aCons (e2 (gIC cDiv (· / ·)) (eVarO 0) (eC (.int 34))) aNil))) (eC (.str "b"))) aNil))) (aCons (eTup (aCons (eL (nLst (aCons (eC (.str "tell")) aNil))) (aCons (eVar 4) aNil))) (aCons (eTup (aCons (eC (.dict [])) (aCons (eVar 5) aNil))) aNil))))) [.sh (.int c), .sh (encPs ps), .sh (.list (nms.map PyData.str)), .sh (.int (sz : Int)), .sh (.str n1), .sh (.str p1), .sh (.int 1000000000000000000), .own L] = some (.list [.tuple [.str "go", .none], .tuple [.str "tell", .str (((Str.ofString "a") ++ (⟨#[x]⟩ : Str)) ++ (Str.ofString "b"))], .tuple [.list [.str "tell"], .str n1], .tuple [.dict [], .str p1]]) :=
    lst_ev (acons_ev (by rfl) (acons_ev (tup2_ev rfl hcat) (acons_ev (by rfl) (acons_ev (by rfl) anil_ev)))) (by show 4 ≤ 100000; decide)
  rw [seq_nx (ext_nx (i := 7) rfl hl3 (by rw [hLl]; show 28 + 4 ≤ 100000; decide))]
  dsimp only [List.set]
  rw [seq_nx (ext_nx (i := 7) (es := [.tuple [.str "lay", .str n1, .str p1, .none], .tuple [.str "lay", .int 5, .str p1, .int 1]]) rfl rfl (by rw [List.length_append, hLl]; show 28 + 4 + 2 ≤ 100000; decide))]
  dsimp only [List.set]
  generalize hM : (L ++ [.tuple [.str "go", .none], .tuple [.str "tell", .str (((Str.ofString "a") ++ (⟨#[x]⟩ : Str)) ++ (Str.ofString "b"))], .tuple [.list [.str "tell"], .str n1], .tuple [.dict [], .str p1]]) ++ [.tuple [.str "lay", .str n1, .str p1, .none], .tuple [.str "lay", .int 5, .str p1, .int 1]] = M
  have hMl : M.length = 34 := by rw [← hM, List.length_append, List.length_append, hLl]; rfl
  have hMa : M.all cR = true := by
    rw [← hM, List.all_append, List.all_append, hLa]
    simp [cR, sR, sP, okS, noD, o1, o2, o5, h_lay, h_go, h_tell, h_none, h_list, h_dict]
  obtain ⟨d, md, hd⟩ := atI_mod M (by omega) c
  rw [hMl] at hd
  refine ⟨d, ?_, List.all_eq_true.mp hMa d md⟩
  rw [rt1_ev (ix_ev (ds := M) rfl (mod_ev (i := c) (j := 34) rfl rfl (by omega)) hd)]
  rfl
end K01
namespace K01
open PX PySem L2 PySem.Spec PyProof.Rows PL PR
/-! _law_changed. -/
abbrev chB : PL.Env → Option Out := (sIf (tE (e2 gEq (eVarO 4) (eC (.int 0)))) (sAsg (eA gTup (aCons (eVar 1) aNil)) (tgN 1)) (sIf (tE (e2 gEq (eVarO 4) (eC (.int 1)))) (sSeq (sOwn (nLc (iS (eSlS (eC (.str "abcdefghijklm")) oNone (oSome (e2 gAdd (eC (.int 12)) (e2 (gIC cMod (· % ·)) (eVarO 5) (eC (.int 2))))))) (tgN 8) (fun _ => some true) (eTup (aCons (eVar 8) (aCons (eC .none) aNil))) [8]) 1)
    (sFree 1 sNext)) (sIf (tE (e2 (gB fun i j => decide (i < j)) (eVarO 4) (eC (.int 4)))) (sSeq (sAsg (e2 (gIC cMod (· % ·)) (eVarO 6) (eA gLen (aCons (eVarO 1) aNil))) (tgN 7))
    (sSeq (sIf (tA (tE (e2 gEq (eVarO 4) (eC (.int 2)))) (tE (e2 gEq (e2 (gIC cMod (· % ·)) (e2 (gIC cDiv (· / ·)) (eVarO 5) (eC (.int 17))) (eC (.int 2))) (eC (.int 1))))) (sAsg (eL (nCat (eVarO 1) (eL (nLst (aCons (eTup (aCons (e2 gIx (e2 gIx (eVarO 1) (eVarO 7)) (eC (.int 0))) (aCons (eC .none) aNil))) aNil))))) (tgN 1)) (sAsg (eL (nCat (eL (nCat (eL (nSl (eVarO 1) oNone (oSome (eVarO 7)))) (eL (nLst (aCons (eA (fun ds => if ds.length = 3 then f__law_pair ds else none) (aCons (eVar 5) (aCons (eVar 1) (aCons (eVar 7) aNil)))) aNil))))) (eL (nSl (eVarO 1) (oSome (e2 gAdd (eVarO 7) (eC (.int 1)))) oNone)))) (tgN 1)))
    (sIf (tE (e2 gEq (eVarO 4) (eC (.int 3)))) (sAsg (eL (nCat (eL (nSl (eVarO 1) oNone (oSome (e1 gNeg (eC (.int 1)))))) (eL (nLst (aCons (eTup (aCons (eC (.str "q")) (aCons (eC (.str "zz")) aNil))) aNil))))) (tgN 1)) sNext))) (sIf (tE (e2 gEq (eVarO 4) (eC (.int 4)))) (sAsg (e2 gIx (eL (nLst (aCons (eA gTup (aCons (eVar 2) aNil)) (aCons (eL (nRep (eL (nSl (eVarO 2) oNone (oSome (eC (.int 1))))) (e2 gAdd (eC (.int 60)) (e2 (gIC cMod (· % ·)) (e2 (gIC cDiv (· / ·)) (eVarO 5) (eC (.int 2))) (eC (.int 2)))))) aNil)))) (e2 (gIC cMod (· % ·)) (eVarO 5) (eC (.int 2)))) (tgN 2)) (sIf (tE (e2 (gB fun i j => decide (i < j)) (eVarO 4) (eC (.int 8)))) (sSeq (sAsg (e2 (gIC cMod (· % ·)) (eVarO 6) (eA gMax (aCons (eC (.int 1)) (aCons (eA gLen (aCons (eVarO 2) aNil)) aNil)))) (tgN 7))
    (sSeq (sOwn (nCat (eL (nCat (eL (nSl (eVarO 2) oNone (oSome (eVarO 7)))) (eL (nLst (aCons (eA (fun ds => if ds.length = 4 then f__law_odd_row ds else none) (aCons (eVar 5) (aCons (eVar 1) (aCons (eVar 3) (aCons (eA gLen (aCons (eVarO 2) aNil)) aNil))))) aNil))))) (eL (nSl (eVarO 2) (oSome (e2 gAdd (eVarO 7) (eC (.int 1)))) oNone))) 2)
    (sSeq (sIf (tA (tE (e2 gEq (eVarO 4) (eC (.int 7)))) (tE (e2 (gB fun i j => decide (i < j)) (eA gLen (aCons (eVarO 2) aNil)) (eC (.int 60))))) (sIns 2 (e2 (gIC cMod (· % ·)) (e2 (gIC cDiv (· / ·)) (eVarO 5) (eC (.int 24))) (e2 gAdd (eA gLen (aCons (eVarO 2) aNil)) (eC (.int 1)))) (eTup (aCons (eC (.str "hop")) aNil))) sNext)
    (sFree 2 sNext)))) sNext)))))
abbrev ch0 : PL.Env → Option Out := (sAsg (eA gTup (aCons (eVar 1) aNil)) (tgN 1))
abbrev ch1 : PL.Env → Option Out := (sSeq (sOwn (nLc (iS (eSlS (eC (.str "abcdefghijklm")) oNone (oSome (e2 gAdd (eC (.int 12)) (e2 (gIC cMod (· % ·)) (eVarO 5) (eC (.int 2))))))) (tgN 8) (fun _ => some true) (eTup (aCons (eVar 8) (aCons (eC .none) aNil))) [8]) 1)
    (sFree 1 sNext))
abbrev ch2 : PL.Env → Option Out := (sSeq (sAsg (e2 (gIC cMod (· % ·)) (eVarO 6) (eA gLen (aCons (eVarO 1) aNil))) (tgN 7))
    (sSeq (sIf (tA (tE (e2 gEq (eVarO 4) (eC (.int 2)))) (tE (e2 gEq (e2 (gIC cMod (· % ·)) (e2 (gIC cDiv (· / ·)) (eVarO 5) (eC (.int 17))) (eC (.int 2))) (eC (.int 1))))) (sAsg (eL (nCat (eVarO 1) (eL (nLst (aCons (eTup (aCons (e2 gIx (e2 gIx (eVarO 1) (eVarO 7)) (eC (.int 0))) (aCons (eC .none) aNil))) aNil))))) (tgN 1)) (sAsg (eL (nCat (eL (nCat (eL (nSl (eVarO 1) oNone (oSome (eVarO 7)))) (eL (nLst (aCons (eA (fun ds => if ds.length = 3 then f__law_pair ds else none) (aCons (eVar 5) (aCons (eVar 1) (aCons (eVar 7) aNil)))) aNil))))) (eL (nSl (eVarO 1) (oSome (e2 gAdd (eVarO 7) (eC (.int 1)))) oNone)))) (tgN 1)))
    (sIf (tE (e2 gEq (eVarO 4) (eC (.int 3)))) (sAsg (eL (nCat (eL (nSl (eVarO 1) oNone (oSome (e1 gNeg (eC (.int 1)))))) (eL (nLst (aCons (eTup (aCons (eC (.str "q")) (aCons (eC (.str "zz")) aNil))) aNil))))) (tgN 1)) sNext)))
abbrev ch2a : PL.Env → Option Out := (sIf (tA (tE (e2 gEq (eVarO 4) (eC (.int 2)))) (tE (e2 gEq (e2 (gIC cMod (· % ·)) (e2 (gIC cDiv (· / ·)) (eVarO 5) (eC (.int 17))) (eC (.int 2))) (eC (.int 1))))) (sAsg (eL (nCat (eVarO 1) (eL (nLst (aCons (eTup (aCons (e2 gIx (e2 gIx (eVarO 1) (eVarO 7)) (eC (.int 0))) (aCons (eC .none) aNil))) aNil))))) (tgN 1)) (sAsg (eL (nCat (eL (nCat (eL (nSl (eVarO 1) oNone (oSome (eVarO 7)))) (eL (nLst (aCons (eA (fun ds => if ds.length = 3 then f__law_pair ds else none) (aCons (eVar 5) (aCons (eVar 1) (aCons (eVar 7) aNil)))) aNil))))) (eL (nSl (eVarO 1) (oSome (e2 gAdd (eVarO 7) (eC (.int 1)))) oNone)))) (tgN 1)))
abbrev ch2b : PL.Env → Option Out := (sIf (tE (e2 gEq (eVarO 4) (eC (.int 3)))) (sAsg (eL (nCat (eL (nSl (eVarO 1) oNone (oSome (e1 gNeg (eC (.int 1)))))) (eL (nLst (aCons (eTup (aCons (eC (.str "q")) (aCons (eC (.str "zz")) aNil))) aNil))))) (tgN 1)) sNext)
abbrev ch3 : PL.Env → Option Out := (sAsg (e2 gIx (eL (nLst (aCons (eA gTup (aCons (eVar 2) aNil)) (aCons (eL (nRep (eL (nSl (eVarO 2) oNone (oSome (eC (.int 1))))) (e2 gAdd (eC (.int 60)) (e2 (gIC cMod (· % ·)) (e2 (gIC cDiv (· / ·)) (eVarO 5) (eC (.int 2))) (eC (.int 2)))))) aNil)))) (e2 (gIC cMod (· % ·)) (eVarO 5) (eC (.int 2)))) (tgN 2))
abbrev ch4 : PL.Env → Option Out := (sSeq (sAsg (e2 (gIC cMod (· % ·)) (eVarO 6) (eA gMax (aCons (eC (.int 1)) (aCons (eA gLen (aCons (eVarO 2) aNil)) aNil)))) (tgN 7))
    (sSeq (sOwn (nCat (eL (nCat (eL (nSl (eVarO 2) oNone (oSome (eVarO 7)))) (eL (nLst (aCons (eA (fun ds => if ds.length = 4 then f__law_odd_row ds else none) (aCons (eVar 5) (aCons (eVar 1) (aCons (eVar 3) (aCons (eA gLen (aCons (eVarO 2) aNil)) aNil))))) aNil))))) (eL (nSl (eVarO 2) (oSome (e2 gAdd (eVarO 7) (eC (.int 1)))) oNone))) 2)
    (sSeq (sIf (tA (tE (e2 gEq (eVarO 4) (eC (.int 7)))) (tE (e2 (gB fun i j => decide (i < j)) (eA gLen (aCons (eVarO 2) aNil)) (eC (.int 60))))) (sIns 2 (e2 (gIC cMod (· % ·)) (e2 (gIC cDiv (· / ·)) (eVarO 5) (eC (.int 24))) (e2 gAdd (eA gLen (aCons (eVarO 2) aNil)) (eC (.int 1)))) (eTup (aCons (eC (.str "hop")) aNil))) sNext)
    (sFree 2 sNext))))
abbrev ch4b : PL.Env → Option Out := (sIf (tA (tE (e2 gEq (eVarO 4) (eC (.int 7)))) (tE (e2 (gB fun i j => decide (i < j)) (eA gLen (aCons (eVarO 2) aNil)) (eC (.int 60))))) (sIns 2 (e2 (gIC cMod (· % ·)) (e2 (gIC cDiv (· / ·)) (eVarO 5) (eC (.int 24))) (e2 gAdd (eA gLen (aCons (eVarO 2) aNil)) (eC (.int 1)))) (eTup (aCons (eC (.str "hop")) aNil))) sNext)
abbrev chE (sc P R N : PyData) (kd ce sp : Int) (s7 s8 : Sl) : PL.Env := [.sh sc, .sh P, .sh R, .sh N, .sh (.int kd), .sh (.int ce), .sh (.int sp), s7, s8]
def NP (d : PyData) : Prop := ∃ l, (d = .list l ∨ d = .tuple l) ∧ l.all cP = true ∧ l.length ≤ 1000
def NR (d : PyData) : Prop := ∃ l, (d = .list l ∨ d = .tuple l) ∧ l.all cR = true ∧ l.length ≤ 1000
theorem mod_nat (c : Int) (m : Nat) (h : 0 < m) : ∃ k : Nat, k < m ∧ c % (m : Int) = (k : Int) := by
  have h1 := Int.emod_nonneg c (show (m : Int) ≠ 0 by omega)
  have h2 := Int.emod_lt_of_pos c (show (0 : Int) < m by omega)
  exact ⟨(c % (m : Int)).toNat, by omega, by omega⟩
theorem cat_l {a b : PL.Env → Option PyData} {env : PL.Env} {xs ys : List PyData} (ha : a env = some (.list xs)) (hb : b env = some (.list ys)) (h : xs.length + ys.length ≤ 100000) : nCat a b env = some (xs ++ ys) := by
  unfold nCat
  rw [ha, Option.bind_some, hb, Option.bind_some]
  show (if xs.length + ys.length ≤ 100000 then some (xs ++ ys) else none) = _
  rw [if_pos h]
theorem sl_l {a : PL.Env → Option PyData} {lo hi : PL.Env → Option (Option Int)} {env : PL.Env} {xs : List PyData} {l h : Option Int} (ha : a env = some (.list xs)) (hl : lo env = some l) (hh : hi env = some h) : nSl a lo hi env = some (PL.cutD xs l h) := by
  unfold nSl
  rw [ha, Option.bind_some, hl, Option.bind_some, hh, Option.bind_some]
  rfl
theorem cut_sub (xs : List PyData) (l h : Option Int) : (∀ d ∈ PL.cutD xs l h, d ∈ xs) ∧ (PL.cutD xs l h).length ≤ xs.length := by
  unfold PL.cutD
  refine ⟨fun d m => List.mem_of_mem_drop (List.mem_of_mem_take m), ?_⟩
  rw [List.length_take, List.length_drop]
  omega
theorem all_cut {p : PyData → Bool} {xs : List PyData} (h : xs.all p = true) (l u : Option Int) : (PL.cutD xs l u).all p = true := List.all_eq_true.mpr fun d m => List.all_eq_true.mp h d ((cut_sub xs l u).1 d m)
theorem one_l {f : PL.Env → Option PyData} {env : PL.Env} {d : PyData} (h : f env = some d) : eL (nLst (aCons f aNil)) env = some (.list [d]) := lst_ev (acons_ev h anil_ev) (by show 1 ≤ 100000; decide)
section
variable {sc P R N : PyData} {kd ce sp : Int} {s7 s8 : Sl}
theorem ch1_ev : ∃ D, ch1 (chE sc P R N kd ce sp s7 s8) = some (.nx (chE sc (.list D) R N kd ce sp s7 s8)) ∧ D.all cP = true ∧ D.length ≤ 13 := by
  obtain ⟨j, hj, ej⟩ := mod_nat ce 2 (by decide)
  generalize hz : (Str.ofString "abcdefghijklm") = z
  have hzl : z.length = 13 := by rw [← hz]; decide +kernel
  have hza : (cs z).all (fun x => decide (x < 128)) = true := by rw [← hz]; decide +kernel
  have hsl : eSlS (eC (.str z)) oNone (oSome (e2 gAdd (eC (.int 12)) (e2 (gIC cMod (· % ·)) (eVarO 5) (eC (.int 2))))) (wipeE (chE sc P R N kd ce sp s7 s8) []) = some (.str (cutS z none (some ((12 + j : Nat) : Int)))) := by
    refine cut_to_ev (f := eC (.str z)) (k := 12 + j) rfl ?_ (by omega)
    refine (add_ev (i := 12) (j := (j : Int)) rfl ((mod_ev (i := ce) (j := 2) rfl rfl (by omega)).trans (congrArg (fun q => some (PyData.int q)) ej))).trans ?_
    congr 2
  generalize hy : cutS z none (some ((12 + j : Nat) : Int)) = y at hsl
  have hyc : cs y = (cs z).take (12 + j) := by rw [← hy, cs_cut_to]
  have hyl : y.cps.toList.length ≤ 13 := by
    have : (cs y).length ≤ 13 := by rw [hyc, List.length_take, cs_len]; omega
    exact this
  have hya : ∀ x ∈ y.cps.toList, x < 128 := fun x m => by
    have m' : x ∈ cs y := m
    rw [hyc] at m'
    exact of_decide_eq_true (List.all_eq_true.mp hza x (List.mem_of_mem_take m'))
  have hi : iS (eSlS (eC (.str z)) oNone (oSome (e2 gAdd (eC (.int 12)) (e2 (gIC cMod (· % ·)) (eVarO 5) (eC (.int 2)))))) (chE sc P R N kd ce sp s7 s8) = some (y.cps.toList.map fun c => .str ⟨#[c]⟩) := by
    unfold iS
    rw [show eSlS (eC (.str z)) oNone (oSome (e2 gAdd (eC (.int 12)) (e2 (gIC cMod (· % ·)) (eVarO 5) (eC (.int 2))))) (chE sc P R N kd ce sp s7 s8) = some (.str y) from hsl]
    rfl
  have hlc : nLc (iS (eSlS (eC (.str z)) oNone (oSome (e2 gAdd (eC (.int 12)) (e2 (gIC cMod (· % ·)) (eVarO 5) (eC (.int 2))))))) (tgN 8) (fun _ => some true) (eTup (aCons (eVar 8) (aCons (eC .none) aNil))) [8] (chE sc P R N kd ce sp s7 s8) = some (y.cps.toList.map fun c => PyData.tuple [.str ⟨#[c]⟩, .none]) := by
    unfold nLc
    rw [hi, Option.bind_some, if_pos (by rw [List.length_map]; omega)]
    rw [lc_all (fun d => chE sc P R N kd ce sp s7 (.sh d)) (fun d => .tuple [d, .none])]
    · rw [List.map_map]
      rfl
    · intro d _
      rfl
    · intro d _
      rfl
  refine ⟨y.cps.toList.map fun c => PyData.tuple [.str ⟨#[c]⟩, .none], ?_, ?_, by rw [List.length_map]; exact hyl⟩
  · show sSeq (sOwn _ 1) (sFree 1 sNext) _ = _
    rw [hz, seq_nx (own_nx hlc), free_ev rfl]
    rfl
  · refine List.all_eq_true.mpr fun d m => ?_
    obtain ⟨c, mc, rfl⟩ := List.mem_map.mp m
    simp [cP, sPair, sP, okS, okT_sign (hya c mc)]
theorem ch2_ev (ps : List (Str × Option Str)) (hp : ∀ q ∈ ps, okT q.1 = true ∧ ∀ o, q.2 = some o → okT o = true) (hz : 0 < ps.length) (hl : ps.length ≤ 12) : ∃ D s7', ch2 (chE sc (encPs ps) R N kd ce sp s7 s8) = some (.nx (chE sc (.list D) R N kd ce sp s7' s8)) ∧ D.all cP = true ∧ D.length ≤ 50 := by
  have hpa : (ps.map encP).all cP = true := List.all_eq_true.mpr fun d m => by
    obtain ⟨q, mq, rfl⟩ := List.mem_map.mp m
    exact cP_p (hp q mq).1 (hp q mq).2
  obtain ⟨i, hi, ei⟩ := mod_nat sp ps.length hz
  have hlen : eA gLen (aCons (eVarO 1) aNil) (chE sc (encPs ps) R N kd ce sp s7 s8) = some (.int (ps.length : Int)) := by
    rw [lenl_ev (ds := ps.map encP) rfl, List.length_map]
  show ∃ D s7', sSeq (sAsg _ (tgN 7)) _ _ = _ ∧ _
  rw [seq_asg ((mod_ev (i := sp) rfl hlen (by omega)).trans (congrArg (fun q => some (PyData.int q)) ei))]
  show ∃ D s7', sSeq ch2a ch2b (chE sc (encPs ps) R N kd ce sp (.sh (.int (i : Int))) s8) = _ ∧ _
  have s1 : ∃ D, ch2a (chE sc (encPs ps) R N kd ce sp (.sh (.int (i : Int))) s8) = some (.nx (chE sc (.list D) R N kd ce sp (.sh (.int (i : Int))) s8)) ∧ D.all cP = true ∧ D.length ≤ 40 := by
    have ht : (tA (tE (e2 gEq (eVarO 4) (eC (.int 2)))) (tE (e2 gEq (e2 (gIC cMod (· % ·)) (e2 (gIC cDiv (· / ·)) (eVarO 5) (eC (.int 17))) (eC (.int 2))) (eC (.int 1))))) (chE sc (encPs ps) R N kd ce sp (.sh (.int (i : Int))) s8) = some (decide (kd = 2) && decide (ce / 17 % 2 = 1)) := tA_ev (eqi_ev rfl rfl) fun _ => eqi_ev (mod_ev (div_ev rfl rfl (by omega)) rfl (by omega)) rfl
    cases hb : (decide (kd = 2) && decide (ce / 17 % 2 = 1)) with
    | true =>
      rw [hb] at ht
      have hnm := name_at (ps := ps) (a := eVarO 1) (b := eVarO 7) (env := chE sc (encPs ps) R N kd ce sp (.sh (.int (i : Int))) s8) (i := (i : Int)) rfl rfl (atI_nat' (List.getElem?_eq_getElem hi))
      have hc := cat_l (a := eVarO 1) (b := eL (nLst (aCons (eTup (aCons (e2 gIx (e2 gIx (eVarO 1) (eVarO 7)) (eC (.int 0))) (aCons (eC .none) aNil))) aNil))) (env := chE sc (encPs ps) R N kd ce sp (.sh (.int (i : Int))) s8) (xs := ps.map encP) rfl (one_l (tup2_ev hnm rfl)) (by rw [List.length_map]; show ps.length + 1 ≤ 100000; omega)
      refine ⟨ps.map encP ++ [.tuple [.str ps[i].1, .none]], ?_, ?_, by rw [List.length_append, List.length_map]; show ps.length + 1 ≤ 40; omega⟩
      · show sIf _ _ _ _ = _
        rw [if_yes ht]
        exact asg_nx (eL_ev hc)
      · rw [List.all_append, hpa]
        simp [cP, sPair, sP, okS, (hp _ (List.getElem_mem hi)).1]
    | false =>
      rw [hb] at ht
      obtain ⟨d, hd, cd⟩ := m_pair ps (fun q m => (hp q m).1) i hi ce
      have hA := sl_l (a := eVarO 1) (lo := oNone) (hi := oSome (eVarO 7)) (env := chE sc (encPs ps) R N kd ce sp (.sh (.int (i : Int))) s8) (xs := ps.map encP) (l := none) (h := some (i : Int)) rfl rfl rfl
      have hB := sl_l (a := eVarO 1) (lo := oSome (e2 gAdd (eVarO 7) (eC (.int 1)))) (hi := oNone) (env := chE sc (encPs ps) R N kd ce sp (.sh (.int (i : Int))) s8) (xs := ps.map encP) (l := some ((i : Int) + 1)) (h := none) rfl rfl rfl
      have a1 := all_cut hpa none (some (i : Int))
      have a2 := all_cut hpa (some ((i : Int) + 1)) none
      have l1 := (cut_sub (ps.map encP) none (some (i : Int))).2
      have l2 := (cut_sub (ps.map encP) (some ((i : Int) + 1)) none).2
      rw [List.length_map] at l1 l2
      generalize PL.cutD (ps.map encP) none (some (i : Int)) = X1 at *
      generalize PL.cutD (ps.map encP) (some ((i : Int) + 1)) none = X2 at *
      have hcall : eA (fun ds => if ds.length = 3 then f__law_pair ds else none) (aCons (eVar 5) (aCons (eVar 1) (aCons (eVar 7) aNil))) (chE sc (encPs ps) R N kd ce sp (.sh (.int (i : Int))) s8) = some d := call3_ev (x := .int ce) rfl (y := encPs ps) rfl (u := .int (i : Int)) rfl hd
      have hc := cat_l (eL_ev (cat_l (eL_ev hA) (one_l hcall) (by show X1.length + 1 ≤ 100000; omega))) (eL_ev hB) (by rw [List.length_append]; show X1.length + 1 + X2.length ≤ 100000; omega)
      refine ⟨(X1 ++ [d]) ++ X2, ?_, ?_, by rw [List.length_append, List.length_append]; show X1.length + 1 + X2.length ≤ 40; omega⟩
      · show sIf _ _ _ _ = _
        rw [if_no ht]
        exact asg_nx (eL_ev hc)
      · rw [List.all_append, List.all_append, a1, a2]
        simp [cd]
  obtain ⟨D, hs1, aD, lD⟩ := s1
  rw [seq_nx hs1]
  have ht : (tE (e2 gEq (eVarO 4) (eC (.int 3)))) (chE sc (.list D) R N kd ce sp (.sh (.int (i : Int))) s8) = some (decide (kd = 3)) := eqi_ev rfl rfl
  cases hb : decide (kd = 3) with
  | true =>
    rw [hb] at ht
    have hA := sl_l (a := eVarO 1) (lo := oNone) (hi := oSome (e1 gNeg (eC (.int 1)))) (env := chE sc (.list D) R N kd ce sp (.sh (.int (i : Int))) s8) (xs := D) (l := none) (h := some (-1)) rfl rfl rfl
    have a1 := all_cut aD none (some (-1))
    have l1 := (cut_sub D none (some (-1))).2
    generalize PL.cutD D none (some (-1)) = X1 at *
    have hc := cat_l (eL_ev hA) (one_l (f := eTup (aCons (eC (.str "q")) (aCons (eC (.str "zz")) aNil))) (d := .tuple [.str "q", .str "zz"]) rfl) (by show X1.length + 1 ≤ 100000; omega)
    refine ⟨X1 ++ [.tuple [.str "q", .str "zz"]], .sh (.int (i : Int)), ?_, ?_, by rw [List.length_append]; show X1.length + 1 ≤ 50; omega⟩
    · show sIf _ _ _ _ = _
      rw [if_yes ht]
      exact asg_nx (eL_ev hc)
    · rw [List.all_append, a1]
      simp [cP, sPair, sP, okS, t_q, t_zz]
  | false =>
    rw [hb] at ht
    refine ⟨D, .sh (.int (i : Int)), ?_, aD, by omega⟩
    show sIf _ _ _ _ = _
    rw [if_no ht]
    rfl
theorem ch3_ev (rows : List PyData) (hr : rows.all cR = true) (hl : rows.length ≤ 100) : ∃ R', ch3 (chE sc P (.list rows) N kd ce sp s7 s8) = some (.nx (chE sc P R' N kd ce sp s7 s8)) ∧ NR R' := by
  obtain ⟨j, hj, ej⟩ := mod_nat (ce / 2) 2 (by decide)
  have hA := sl_l (a := eVarO 2) (lo := oNone) (hi := oSome (eC (.int 1))) (env := chE sc P (.list rows) N kd ce sp s7 s8) (xs := rows) (l := none) (h := some ((1 : Nat) : Int)) rfl rfl rfl
  rw [cutD_to] at hA
  have l1 : (rows.take 1).length ≤ 1 := by rw [List.length_take]; omega
  have a1 : ∀ d ∈ rows.take 1, cR d = true := fun d m => List.all_eq_true.mp hr d (List.mem_of_mem_take m)
  generalize rows.take 1 = X1 at *
  have hk : e2 gAdd (eC (.int 60)) (e2 (gIC cMod (· % ·)) (e2 (gIC cDiv (· / ·)) (eVarO 5) (eC (.int 2))) (eC (.int 2))) (chE sc P (.list rows) N kd ce sp s7 s8) = some (.int (60 + (j : Int))) := add_ev rfl ((mod_ev (div_ev (i := ce) rfl rfl (by omega)) rfl (by omega)).trans (congrArg (fun q => some (PyData.int q)) ej))
  have hrep : nRep (eL (nSl (eVarO 2) oNone (oSome (eC (.int 1))))) (e2 gAdd (eC (.int 60)) (e2 (gIC cMod (· % ·)) (e2 (gIC cDiv (· / ·)) (eVarO 5) (eC (.int 2))) (eC (.int 2)))) (chE sc P (.list rows) N kd ce sp s7 s8) = some (List.replicate (60 + j) X1).flatten := by
    unfold nRep
    rw [eL_ev hA, Option.bind_some, hk, Option.bind_some]
    show (if 0 ≤ (60 + (j : Int)) ∧ (60 + (j : Int)) ≤ 100000 ∧ X1.length * (60 + (j : Int)).toNat ≤ 100000 then some (List.replicate (60 + (j : Int)).toNat X1).flatten else none) = _
    have hn : (60 + (j : Int)).toNat = 60 + j := by omega
    rw [hn, if_pos ⟨by omega, by omega, by
      have : X1.length * (60 + j) ≤ 1 * (60 + j) := Nat.mul_le_mul_right _ l1
      omega⟩]
  have hlst : eL (nLst (aCons (eA gTup (aCons (eVar 2) aNil)) (aCons (eL (nRep (eL (nSl (eVarO 2) oNone (oSome (eC (.int 1))))) (e2 gAdd (eC (.int 60)) (e2 (gIC cMod (· % ·)) (e2 (gIC cDiv (· / ·)) (eVarO 5) (eC (.int 2))) (eC (.int 2)))))) aNil))) (chE sc P (.list rows) N kd ce sp s7 s8) = some (.list [.tuple rows, .list (List.replicate (60 + j) X1).flatten]) :=
    lst_ev (acons_ev (d := .tuple rows) rfl (acons_ev (eL_ev hrep) anil_ev)) (by show 2 ≤ 100000; decide)
  obtain ⟨d, md, hd⟩ := atI_mod [PyData.tuple rows, .list (List.replicate (60 + j) X1).flatten] (by show 0 < 2; decide) ce
  have hd' : atI [PyData.tuple rows, .list (List.replicate (60 + j) X1).flatten] (ce % 2) = some d := hd
  refine ⟨d, asg_nx (ix_ev hlst (mod_ev (i := ce) (j := 2) rfl rfl (by omega)) hd'), ?_⟩
  rcases List.mem_cons.mp md with rfl | md
  · exact ⟨rows, .inr rfl, hr, by omega⟩
  · rw [List.mem_singleton] at md
    subst md
    refine ⟨_, .inl rfl, List.all_eq_true.mpr fun d m => ?_, ?_⟩
    · obtain ⟨l, ml, mm⟩ := List.mem_flatten.mp m
      rw [(List.mem_replicate.mp ml).2] at mm
      exact a1 d mm
    · have : ∀ n : Nat, (List.replicate n X1).flatten.length ≤ n := fun n => by
        induction n with
        | zero => simp
        | succ n ih =>
          rw [List.replicate_succ, List.flatten_cons, List.length_append]
          omega
      have := this (60 + j)
      omega
theorem ch4_ev (ps : List (Str × Option Str)) (hp : ∀ q ∈ ps, okT q.1 = true) (hz : 0 < ps.length) (nms : List Str) (hn : ∀ x ∈ nms, okT x = true) (hnz : 0 < nms.length) (rows : List PyData) (hr : rows.all cR = true) (hl : rows.length ≤ 100) :
    ∃ R' s7', ch4 (chE sc (encPs ps) (.list rows) (.list (nms.map PyData.str)) kd ce sp s7 s8) = some (.nx (chE sc (encPs ps) R' (.list (nms.map PyData.str)) kd ce sp s7' s8)) ∧ NR R' := by
  have hlen : eA gLen (aCons (eVarO 2) aNil) (chE sc (encPs ps) (.list rows) (.list (nms.map PyData.str)) kd ce sp s7 s8) = some (.int (rows.length : Int)) := lenl_ev rfl
  have hmx : eA gMax (aCons (eC (.int 1)) (aCons (eA gLen (aCons (eVarO 2) aNil)) aNil)) (chE sc (encPs ps) (.list rows) (.list (nms.map PyData.str)) kd ce sp s7 s8) = some (.int (((if 1 < rows.length then rows.length else 1) : Nat) : Int)) := by
    unfold eA at hlen ⊢
    rw [acons_ev (d := .int 1) rfl (acons_ev hlen anil_ev)]
    show some (PyData.int (if (rows.length : Int) > 1 then (rows.length : Int) else 1)) = _
    congr 2
    split <;> split <;> omega
  generalize hM : (if 1 < rows.length then rows.length else 1) = M at hmx
  have hM0 : 0 < M := by rw [← hM]; split <;> omega
  obtain ⟨i, hi, ei⟩ := mod_nat sp M hM0
  show ∃ R' s7', sSeq (sAsg _ (tgN 7)) _ _ = _ ∧ _
  rw [seq_asg ((mod_ev (i := sp) rfl hmx (by omega)).trans (congrArg (fun q => some (PyData.int q)) ei))]
  dsimp only [List.set]
  obtain ⟨d, hd, cd⟩ := m_odd_row ps hp hz nms hn hnz ce rows.length
  have hA := sl_l (a := eVarO 2) (lo := oNone) (hi := oSome (eVarO 7)) (env := chE sc (encPs ps) (.list rows) (.list (nms.map PyData.str)) kd ce sp (.sh (.int (i : Int))) s8) (xs := rows) (l := none) (h := some (i : Int)) rfl rfl rfl
  have hB := sl_l (a := eVarO 2) (lo := oSome (e2 gAdd (eVarO 7) (eC (.int 1)))) (hi := oNone) (env := chE sc (encPs ps) (.list rows) (.list (nms.map PyData.str)) kd ce sp (.sh (.int (i : Int))) s8) (xs := rows) (l := some ((i : Int) + 1)) (h := none) rfl rfl rfl
  have a1 := all_cut hr none (some (i : Int))
  have a2 := all_cut hr (some ((i : Int) + 1)) none
  have l1 := (cut_sub rows none (some (i : Int))).2
  have l2 := (cut_sub rows (some ((i : Int) + 1)) none).2
  generalize PL.cutD rows none (some (i : Int)) = X1 at *
  generalize PL.cutD rows (some ((i : Int) + 1)) none = X2 at *
  have hcall : eA (fun ds => if ds.length = 4 then f__law_odd_row ds else none) (aCons (eVar 5) (aCons (eVar 1) (aCons (eVar 3) (aCons (eA gLen (aCons (eVarO 2) aNil)) aNil)))) (chE sc (encPs ps) (.list rows) (.list (nms.map PyData.str)) kd ce sp (.sh (.int (i : Int))) s8) = some d := call4_ev (x := .int ce) rfl (y := encPs ps) rfl (u := .list (nms.map PyData.str)) rfl (v := .int (rows.length : Int)) (lenl_ev rfl) hd
  have hc := cat_l (eL_ev (cat_l (eL_ev hA) (one_l hcall) (by show X1.length + 1 ≤ 100000; omega))) (eL_ev hB) (by rw [List.length_append]; show X1.length + 1 + X2.length ≤ 100000; omega)
  have aD : ((X1 ++ [d]) ++ X2).all cR = true := by
    rw [List.all_append, List.all_append, a1, a2]
    simp [cd]
  have lD : ((X1 ++ [d]) ++ X2).length ≤ 300 := by
    rw [List.length_append, List.length_append]
    show X1.length + 1 + X2.length ≤ 300
    omega
  generalize (X1 ++ [d]) ++ X2 = D at *
  rw [seq_nx (own_nx hc)]
  dsimp only [List.set]
  have hlD : eA gLen (aCons (eVarO 2) aNil) [.sh sc, .sh (encPs ps), .own D, .sh (.list (nms.map PyData.str)), .sh (.int kd), .sh (.int ce), .sh (.int sp), .sh (.int (i : Int)), s8] = some (.int (D.length : Int)) := lenl_ev rfl
  have s2 : ∃ D', ch4b [.sh sc, .sh (encPs ps), .own D, .sh (.list (nms.map PyData.str)), .sh (.int kd), .sh (.int ce), .sh (.int sp), .sh (.int (i : Int)), s8] = some (.nx [.sh sc, .sh (encPs ps), .own D', .sh (.list (nms.map PyData.str)), .sh (.int kd), .sh (.int ce), .sh (.int sp), .sh (.int (i : Int)), s8]) ∧ D'.all cR = true ∧ D'.length ≤ 400 := by
    have ht : tA (tE (e2 gEq (eVarO 4) (eC (.int 7)))) (tE (e2 (gB fun i j => decide (i < j)) (eA gLen (aCons (eVarO 2) aNil)) (eC (.int 60)))) [.sh sc, .sh (encPs ps), .own D, .sh (.list (nms.map PyData.str)), .sh (.int kd), .sh (.int ce), .sh (.int sp), .sh (.int (i : Int)), s8] = some (decide (kd = 7) && decide ((D.length : Int) < 60)) := tA_ev (eqi_ev rfl rfl) fun _ => lt_ev hlD rfl
    cases hb : (decide (kd = 7) && decide ((D.length : Int) < 60)) with
    | false =>
      rw [hb] at ht
      refine ⟨D, ?_, aD, by omega⟩
      show sIf _ _ _ _ = _
      rw [if_no ht]
      rfl
    | true =>
      rw [hb] at ht
      obtain ⟨k, hk, ek⟩ := mod_nat (ce / 24) (D.length + 1) (by omega)
      have hkk : e2 (gIC cMod (· % ·)) (e2 (gIC cDiv (· / ·)) (eVarO 5) (eC (.int 24))) (e2 gAdd (eA gLen (aCons (eVarO 2) aNil)) (eC (.int 1))) [.sh sc, .sh (encPs ps), .own D, .sh (.list (nms.map PyData.str)), .sh (.int kd), .sh (.int ce), .sh (.int sp), .sh (.int (i : Int)), s8] = some (.int (k : Int)) := (mod_ev (div_ev (i := ce) rfl rfl (by omega)) (add_ev hlD rfl) (by omega)).trans (congrArg (fun q => some (PyData.int q)) ek)
      refine ⟨D.take k ++ [.tuple [.str "hop"]] ++ D.drop k, ?_, ?_, ?_⟩
      · show sIf _ _ _ _ = _
        rw [if_yes ht]
        unfold sIns
        dsimp only [List.getElem?_cons_succ, List.getElem?_cons_zero]
        rw [hkk, Option.bind_some]
        show (if 0 ≤ (k : Int) ∧ (k : Int) ≤ 100000 ∧ D.length < 100000 then some (Out.nx _) else none) = _
        rw [if_pos ⟨by omega, by omega, by omega⟩, Int.toNat_natCast]
        rfl
      · have q1 : (D.take k).all cR = true := List.all_eq_true.mpr fun d m => List.all_eq_true.mp aD d (List.mem_of_mem_take m)
        have q2 : (D.drop k).all cR = true := List.all_eq_true.mpr fun d m => List.all_eq_true.mp aD d (List.mem_of_mem_drop m)
        rw [List.all_append, List.all_append, q1, q2]
        simp [cR, sR, okS, h_hop]
      · rw [List.length_append, List.length_append, List.length_take, List.length_drop]
        show _ + 1 + _ ≤ 400
        omega
  obtain ⟨D', e2', aD', lD'⟩ := s2
  refine ⟨.list D', .sh (.int (i : Int)), ?_, D', .inl rfl, aD', by omega⟩
  rw [seq_nx e2', free_ev rfl]
  rfl
end
theorem m_changed (ns : List Int) (ps : List (Str × Option Str)) (hp : ∀ q ∈ ps, okT q.1 = true ∧ ∀ o, q.2 = some o → okT o = true) (hz : 0 < ps.length) (hl : ps.length ≤ 12) (nms : List Str) (hn : ∀ x ∈ nms, okT x = true) (hnz : 0 < nms.length) (rows : List PyData) (hr : rows.all cR = true) (hrl : rows.length ≤ 100) :
    ∃ P R, f__law_changed [scrD (ns.map PyData.int), encPs ps, .list rows, .list (nms.map PyData.str)] = some (.tuple [P, R]) ∧ NP P ∧ NR R := by
  have hpa : (ps.map encP).all cP = true := List.all_eq_true.mpr fun d m => by
    obtain ⟨q, mq, rfl⟩ := List.mem_map.mp m
    exact cP_p (hp q mq).1 (hp q mq).2
  have n1 : NP (encPs ps) := ⟨_, .inl rfl, hpa, by rw [List.length_map]; omega⟩
  have n2 : NR (.list rows) := ⟨_, .inl rfl, hr, by omega⟩
  unfold f__law_changed fnD F__law_changed
  have h0 : fEnv 9 [scrD (ns.map PyData.int), encPs ps, .list rows, .list (nms.map PyData.str)] = [.sh (scrD (ns.map PyData.int)), .sh (encPs ps), .sh (.list rows), .sh (.list (nms.map PyData.str)), .un, .un, .un, .un, .un] := rfl
  rw [h0, seq_asg (mod_ev (at3_ev rfl) rfl (by omega))]
  dsimp only [List.set]
  rw [seq_asg (at4_ev rfl)]
  dsimp only [List.set]
  rw [seq_asg (at5_ev rfl)]
  dsimp only [List.set]
  generalize ns.getD 3 0 % 9 = kd
  generalize ns.getD 4 0 = ce
  generalize ns.getD 5 0 = sp
  have key : ∃ P R s7 s8, chB (chE (scrD (ns.map PyData.int)) (encPs ps) (.list rows) (.list (nms.map PyData.str)) kd ce sp .un .un) = some (.nx (chE (scrD (ns.map PyData.int)) P R (.list (nms.map PyData.str)) kd ce sp s7 s8)) ∧ NP P ∧ NR R := by
    have t0 : (tE (e2 gEq (eVarO 4) (eC (.int 0)))) (chE (scrD (ns.map PyData.int)) (encPs ps) (.list rows) (.list (nms.map PyData.str)) kd ce sp .un .un) = some (decide (kd = 0)) := eqi_ev rfl rfl
    have t1 : (tE (e2 gEq (eVarO 4) (eC (.int 1)))) (chE (scrD (ns.map PyData.int)) (encPs ps) (.list rows) (.list (nms.map PyData.str)) kd ce sp .un .un) = some (decide (kd = 1)) := eqi_ev rfl rfl
    have t2 : (tE (e2 (gB fun i j => decide (i < j)) (eVarO 4) (eC (.int 4)))) (chE (scrD (ns.map PyData.int)) (encPs ps) (.list rows) (.list (nms.map PyData.str)) kd ce sp .un .un) = some (decide (kd < 4)) := lt_ev rfl rfl
    have t3 : (tE (e2 gEq (eVarO 4) (eC (.int 4)))) (chE (scrD (ns.map PyData.int)) (encPs ps) (.list rows) (.list (nms.map PyData.str)) kd ce sp .un .un) = some (decide (kd = 4)) := eqi_ev rfl rfl
    have t4 : (tE (e2 (gB fun i j => decide (i < j)) (eVarO 4) (eC (.int 8)))) (chE (scrD (ns.map PyData.int)) (encPs ps) (.list rows) (.list (nms.map PyData.str)) kd ce sp .un .un) = some (decide (kd < 8)) := lt_ev rfl rfl
    cases b0 : decide (kd = 0) with
    | true =>
      rw [b0] at t0
      refine ⟨.tuple (ps.map encP), .list rows, .un, .un, ?_, ⟨_, .inr rfl, hpa, by rw [List.length_map]; omega⟩, n2⟩
      show sIf _ _ _ _ = _
      rw [if_yes t0]
      rfl
    | false =>
      rw [b0] at t0
      cases b1 : decide (kd = 1) with
      | true =>
        rw [b1] at t1
        obtain ⟨D, e, a, l⟩ := ch1_ev (sc := scrD (ns.map PyData.int)) (P := encPs ps) (R := .list rows) (N := .list (nms.map PyData.str)) (kd := kd) (ce := ce) (sp := sp) (s7 := .un) (s8 := .un)
        refine ⟨.list D, .list rows, .un, .un, ?_, ⟨_, .inl rfl, a, by omega⟩, n2⟩
        show sIf _ _ _ _ = _
        rw [if_no t0, if_yes t1]
        exact e
      | false =>
        rw [b1] at t1
        cases b2 : decide (kd < 4) with
        | true =>
          rw [b2] at t2
          obtain ⟨D, s7', e, a, l⟩ := ch2_ev (sc := scrD (ns.map PyData.int)) (R := .list rows) (N := .list (nms.map PyData.str)) (kd := kd) (ce := ce) (sp := sp) (s7 := .un) (s8 := .un) ps hp hz hl
          refine ⟨.list D, .list rows, s7', .un, ?_, ⟨_, .inl rfl, a, by omega⟩, n2⟩
          show sIf _ _ _ _ = _
          rw [if_no t0, if_no t1, if_yes t2]
          exact e
        | false =>
          rw [b2] at t2
          cases b3 : decide (kd = 4) with
          | true =>
            rw [b3] at t3
            obtain ⟨R', e, hR'⟩ := ch3_ev (sc := scrD (ns.map PyData.int)) (P := encPs ps) (N := .list (nms.map PyData.str)) (kd := kd) (ce := ce) (sp := sp) (s7 := .un) (s8 := .un) rows hr hrl
            refine ⟨encPs ps, R', .un, .un, ?_, n1, hR'⟩
            show sIf _ _ _ _ = _
            rw [if_no t0, if_no t1, if_no t2, if_yes t3]
            exact e
          | false =>
            rw [b3] at t3
            cases b4 : decide (kd < 8) with
            | true =>
              rw [b4] at t4
              obtain ⟨R', s7', e, hR'⟩ := ch4_ev (sc := scrD (ns.map PyData.int)) (kd := kd) (ce := ce) (sp := sp) (s7 := .un) (s8 := .un) ps (fun q m => (hp q m).1) hz nms hn hnz rows hr hrl
              refine ⟨encPs ps, R', s7', .un, ?_, n1, hR'⟩
              show sIf _ _ _ _ = _
              rw [if_no t0, if_no t1, if_no t2, if_no t3, if_yes t4]
              exact e
            | false =>
              rw [b4] at t4
              refine ⟨encPs ps, .list rows, .un, .un, ?_, n1, n2⟩
              show sIf _ _ _ _ = _
              rw [if_no t0, if_no t1, if_no t2, if_no t3, if_no t4]
              rfl
  obtain ⟨P, R, s7, s8, e, hP, hR⟩ := key
  refine ⟨P, R, ?_, hP, hR⟩
  exact (congrArg outD ((seq_nx e).trans (rt1_ev (tup2_ev (x := P) (y := R) rfl rfl)))).trans rfl
end K01
namespace K01
open PX PySem L2 PySem.Spec PyProof.Rows PL PR
/-! The law's function tells True. -/
noncomputable abbrev lwR (fs : List PyData → Option PyData) : PL.Env → Option Out := (sSeq (sOwn (nLst (aCons (eL (nList (aCons (eVarO 1) aNil))) (aCons (eL (nList (aCons (eVarO 4) aNil))) aNil))) 6)
    (sSeq (sIf (tE (e1 (gIsi "tuple") (eVarO 1))) (sSet 6 0 (eA gTup (aCons (eVar 1) aNil))) sNext)
    (sSeq (sIf (tE (e1 (gIsi "tuple") (eVarO 4))) (sSet 6 1 (eA gTup (aCons (eVar 4) aNil))) sNext)
    (sSeq (sAsg (eA (fun ds => if ds.length = 3 then fs ds else none) (aCons (e2 (gIC cMod (· % ·)) (e2 (gIC cDiv (· / ·)) (eA (fun ds => if ds.length = 2 then f__law_at ds else none) (aCons (eVar 0) (aCons (eC (.int 3)) aNil))) (eC (.int 9))) (eC (.int 2))) (aCons (e2 gIx (eVarO 6) (eC (.int 0))) (aCons (e2 gIx (eVarO 6) (eC (.int 1))) aNil)))) (tgN 7))
    (sSeq (sIf (tO (tE (e2 gNeS (eVarO 6) (eL (nLst (aCons (eVar 1) (aCons (eVar 4) aNil)))))) (tE (e2 gNe (e2 gIx (eVarO 7) (eC (.int 0))) (e2 gIx (eVarO 5) (eC (.int 0)))))) (sRet (eC (.bool false))) sNext)
    (sSeq (sIf (tO (tE (e2 gIsT (e2 gIx (eVarO 5) (eC (.int 1))) (eC (.bool true)))) (tE (e1 (gIsN false) (e2 gIx (eVarO 5) (eC (.int 1)))))) (sRet (eAndB (e2 gEq (e1 (gIsi "bool") (e2 gIx (eVarO 7) (eC (.int 1)))) (e1 (gIsi "bool") (e2 gIx (eVarO 5) (eC (.int 1))))) (e2 gEq (e2 gIx (eVarO 7) (eC (.int 1))) (e2 gIx (eVarO 5) (eC (.int 1)))))) sNext)
    (sRet (eAndB (eA (fun ds => if ds.length = 1 then f__law_whole ds else none) (aCons (e2 gIx (eVarO 7) (eC (.int 1))) aNil)) (e2 gEq (e2 gIx (eVarO 7) (eC (.int 1))) (e2 gIx (eVarO 5) (eC (.int 1))))))))))))
theorem cR_rowM {ps : List (Str × Option Str)} {nms : List Str} (h1 : 0 < ps.length) (h2 : 0 < nms.length) (hp : ∀ q ∈ ps, okT q.1 = true) (hn : ∀ x ∈ nms, okT x = true) (c sz : Int) : cR (encR (rowM ps nms c sz)) = true := by
  have hn' : ∀ i, okT (pickS nms i) = true := fun i => hn _ (pickS_mem h2)
  have hp' : ∀ i, okT (pickS (ps.map (·.1)) i) = true := fun i => by
    obtain ⟨q, mq, e⟩ := List.mem_map.mp (pickS_mem (l := ps.map (·.1)) (i := i) (by rw [List.length_map]; exact h1))
    rw [← e]
    exact hp q mq
  unfold rowM
  split <;> simp [encR, cR, sR, sP, okS, hn', hp', h_open, h_lay, h_copy, h_same, h_add, h_tell, h_give, h_fork, h_go, h_end]
theorem cut_ints (l : List Int) (lo hi : Option Int) : ∃ m : List Int, PL.cutD (l.map PyData.int) lo hi = m.map PyData.int ∧ m.length ≤ l.length := by
  refine ⟨(l.drop (HT.sIx (l.map PyData.int).length 0 lo)).take (HT.sIx (l.map PyData.int).length (l.map PyData.int).length hi - HT.sIx (l.map PyData.int).length 0 lo), ?_, ?_⟩
  · unfold PL.cutD
    rw [List.map_take, List.map_drop]
  · rw [List.length_take, List.length_drop]
    omega
theorem okS_up {n : Nat} {d : PyData} (h : okS n d = true) : ∀ k, okS (n + k) d = true
  | 0 => h
  | k + 1 => okS_mono _ _ (okS_up h k)
theorem NP.nP {P : PyData} (h : NP P) : nP P = true := by
  obtain ⟨l, rfl | rfl, h1, h2⟩ := h
  · show (l.all sPair && decide (l.length ≤ 10000)) = true
    rw [show l.all sPair = true from List.all_eq_true.mpr fun d m => (Bool.and_eq_true_iff.mp (List.all_eq_true.mp h1 d m)).1, Bool.true_and]
    exact decide_eq_true (by omega)
  · rfl
theorem NR.nR {P : PyData} (h : NR P) : nR P = true := by
  obtain ⟨l, rfl | rfl, h1, h2⟩ := h
  · show (l.all sR && decide (l.length ≤ 10000)) = true
    rw [show l.all sR = true from List.all_eq_true.mpr fun d m => (Bool.and_eq_true_iff.mp (List.all_eq_true.mp h1 d m)).1, Bool.true_and]
    exact decide_eq_true (by omega)
  · rfl
theorem NP.okS {P : PyData} (h : NP P) : okS 19 P = true := by
  obtain ⟨l, rfl | rfl, h1, h2⟩ := h
  · exact List.all_eq_true.mpr fun d m => okS_up (Bool.and_eq_true_iff.mp (List.all_eq_true.mp h1 d m)).2 12
  · exact List.all_eq_true.mpr fun d m => okS_up (Bool.and_eq_true_iff.mp (List.all_eq_true.mp h1 d m)).2 12
theorem NR.okS {P : PyData} (h : NR P) : okS 19 P = true := by
  obtain ⟨l, rfl | rfl, h1, h2⟩ := h
  · exact List.all_eq_true.mpr fun d m => okS_up (Bool.and_eq_true_iff.mp (List.all_eq_true.mp h1 d m)).2 12
  · exact List.all_eq_true.mpr fun d m => okS_up (Bool.and_eq_true_iff.mp (List.all_eq_true.mp h1 d m)).2 12
theorem fin_ev (CP CR : Addr) (hne : CR ≠ CP) (ns : List Int) {P R N C : PyData} {s8 s9 s10 s11 : Sl} (hP : NP P) (hR : NR R) (w : Str) (x : PyData) (hs : saidD P R = .tuple [.str w, x]) (hw : PyData.strOk w = true) (hx : x = .none ∨ x = .bool true ∨ ∃ j, x = .int j) :
    lwR (f__law_said CP CR) [.sh (scrD (ns.map PyData.int)), .sh P, .sh N, .sh C, .sh R, .sh (.tuple [.str w, x]), .un, .un, s8, s9, s10, s11] = some (.rt (.bool true)) := by
  have hand : ∀ G, sSeq (sOwn (nLst (aCons (eL (nList (aCons (eVarO 1) aNil))) (aCons (eL (nList (aCons (eVarO 4) aNil))) aNil))) 6) (sSeq (sIf (tE (e1 (gIsi "tuple") (eVarO 1))) (sSet 6 0 (eA gTup (aCons (eVar 1) aNil))) sNext) (sSeq (sIf (tE (e1 (gIsi "tuple") (eVarO 4))) (sSet 6 1 (eA gTup (aCons (eVar 4) aNil))) sNext) G)) [.sh (scrD (ns.map PyData.int)), .sh P, .sh N, .sh C, .sh R, .sh (.tuple [.str w, x]), .un, .un, s8, s9, s10, s11] = G [.sh (scrD (ns.map PyData.int)), .sh P, .sh N, .sh C, .sh R, .sh (.tuple [.str w, x]), .own [P, R], .un, s8, s9, s10, s11] := fun G => by
    obtain ⟨lp, hp1, _, _⟩ := id hP
    obtain ⟨lr, hr1, _, _⟩ := id hR
    have own : (sOwn (nLst (aCons (eL (nList (aCons (eVarO 1) aNil))) (aCons (eL (nList (aCons (eVarO 4) aNil))) aNil))) 6) [.sh (scrD (ns.map PyData.int)), .sh P, .sh N, .sh C, .sh R, .sh (.tuple [.str w, x]), .un, .un, s8, s9, s10, s11] = some (.nx [.sh (scrD (ns.map PyData.int)), .sh P, .sh N, .sh C, .sh R, .sh (.tuple [.str w, x]), .own [.list lp, .list lr], .un, s8, s9, s10, s11]) := by
      rcases hp1 with rfl | rfl <;> rcases hr1 with rfl | rfl <;> rfl
    rw [seq_nx own]
    have i1 : ∀ G, sSeq (sIf (tE (e1 (gIsi "tuple") (eVarO 1))) (sSet 6 0 (eA gTup (aCons (eVar 1) aNil))) sNext) G [.sh (scrD (ns.map PyData.int)), .sh P, .sh N, .sh C, .sh R, .sh (.tuple [.str w, x]), .own [.list lp, .list lr], .un, s8, s9, s10, s11] = G [.sh (scrD (ns.map PyData.int)), .sh P, .sh N, .sh C, .sh R, .sh (.tuple [.str w, x]), .own [P, .list lr], .un, s8, s9, s10, s11] := fun G => by
      rcases hp1 with rfl | rfl
      · rw [if_seq (isi_ev (d := .list lp) (b := false) rfl (isi_t rfl))]
        rfl
      · rw [if_seq (isi_ev (d := .tuple lp) (b := true) rfl (isi_t rfl))]
        rfl
    rw [i1]
    rcases hr1 with rfl | rfl
    · rw [if_seq (isi_ev (d := .list lr) (b := false) rfl (isi_t rfl))]
      rfl
    · rw [if_seq (isi_ev (d := .tuple lr) (b := true) rfl (isi_t rfl))]
      rfl
  show sSeq _ (sSeq _ (sSeq _ _)) _ = _
  rw [hand]
  have f0 : e2 gIx (eVarO 6) (eC (.int 0)) [.sh (scrD (ns.map PyData.int)), .sh P, .sh N, .sh C, .sh R, .sh (.tuple [.str w, x]), .own [P, R], .un, s8, s9, s10, s11] = some P := ix_ev (ds := [P, R]) (i := ((0 : Nat) : Int)) rfl rfl (atI_nat' (n := 0) rfl)
  have f1 : e2 gIx (eVarO 6) (eC (.int 1)) [.sh (scrD (ns.map PyData.int)), .sh P, .sh N, .sh C, .sh R, .sh (.tuple [.str w, x]), .own [P, R], .un, s8, s9, s10, s11] = some R := ix_ev (ds := [P, R]) (i := ((1 : Nat) : Int)) rfl rfl (atI_nat' (n := 1) rfl)
  rw [seq_asg (call3_ev (mod_ev (div_ev (at3_ev rfl) rfl (by omega)) rfl (by omega)) f0 f1 ((m_said CP CR hne _ hP.nP hR.nR).trans (by rw [hs])))]
  dsimp only [List.set]
  have g0 : e2 gIx (eVarO 7) (eC (.int 0)) [.sh (scrD (ns.map PyData.int)), .sh P, .sh N, .sh C, .sh R, .sh (.tuple [.str w, x]), .own [P, R], .sh (.tuple [.str w, x]), s8, s9, s10, s11] = some (.str w) := ixt_ev (ds := [.str w, x]) (i := ((0 : Nat) : Int)) rfl rfl (atI_nat' (n := 0) rfl)
  have g1 : e2 gIx (eVarO 7) (eC (.int 1)) [.sh (scrD (ns.map PyData.int)), .sh P, .sh N, .sh C, .sh R, .sh (.tuple [.str w, x]), .own [P, R], .sh (.tuple [.str w, x]), s8, s9, s10, s11] = some x := ixt_ev (ds := [.str w, x]) (i := ((1 : Nat) : Int)) rfl rfl (atI_nat' (n := 1) rfl)
  have k0 : e2 gIx (eVarO 5) (eC (.int 0)) [.sh (scrD (ns.map PyData.int)), .sh P, .sh N, .sh C, .sh R, .sh (.tuple [.str w, x]), .own [P, R], .sh (.tuple [.str w, x]), s8, s9, s10, s11] = some (.str w) := ixt_ev (ds := [.str w, x]) (i := ((0 : Nat) : Int)) rfl rfl (atI_nat' (n := 0) rfl)
  have k1 : e2 gIx (eVarO 5) (eC (.int 1)) [.sh (scrD (ns.map PyData.int)), .sh P, .sh N, .sh C, .sh R, .sh (.tuple [.str w, x]), .own [P, R], .sh (.tuple [.str w, x]), s8, s9, s10, s11] = some x := ixt_ev (ds := [.str w, x]) (i := ((1 : Nat) : Int)) rfl rfl (atI_nat' (n := 1) rfl)
  have hok : okS 20 (.list [P, R]) = true := List.all_eq_true.mpr fun d m => by
    rcases List.mem_cons.mp m with rfl | m
    · exact hP.okS
    · rw [List.mem_singleton.mp m]
      exact hR.okS
  have hnes : e2 gNeS (eVarO 6) (eL (nLst (aCons (eVar 1) (aCons (eVar 4) aNil)))) [.sh (scrD (ns.map PyData.int)), .sh P, .sh N, .sh C, .sh R, .sh (.tuple [.str w, x]), .own [P, R], .sh (.tuple [.str w, x]), s8, s9, s10, s11] = some (.bool false) := by
    refine e2v (x := .list [P, R]) (y := .list [P, R]) rfl (lst_ev (acons_ev rfl (acons_ev rfl anil_ev)) (by show 2 ≤ 100000; decide)) ?_
    unfold gNeS
    exact if_pos ⟨rfl, hok⟩
  have t1 : (tO (tE (e2 gNeS (eVarO 6) (eL (nLst (aCons (eVar 1) (aCons (eVar 4) aNil)))))) (tE (e2 gNe (e2 gIx (eVarO 7) (eC (.int 0))) (e2 gIx (eVarO 5) (eC (.int 0)))))) [.sh (scrD (ns.map PyData.int)), .sh P, .sh N, .sh C, .sh R, .sh (.tuple [.str w, x]), .own [P, R], .sh (.tuple [.str w, x]), s8, s9, s10, s11] = some false := by
    rw [tO_ev (vt_ev hnes) fun _ => nez_ev g0 k0 hw hw, decide_eq_true rfl]
    rfl
  rw [if_seq t1, if_neg Bool.false_ne_true, next_seq]
  rcases hx with rfl | rfl | ⟨j, rfl⟩
  · rw [if_seq (tO_ev (x := false) (y := true) (vt_ev (e2v k1 (y := .bool true) rfl rfl)) fun _ => vt_ev (isn_ev k1 false)), Bool.false_or, if_pos rfl]
    have hb : e1 (gIsi "bool") (e2 gIx (eVarO 7) (eC (.int 1))) [.sh (scrD (ns.map PyData.int)), .sh P, .sh N, .sh C, .sh R, .sh (.tuple [.str w, .none]), .own [P, R], .sh (.tuple [.str w, .none]), s8, s9, s10, s11] = some (.bool false) := tv_ev (isi_ev g1 (isi_b rfl))
    have hb2 : e1 (gIsi "bool") (e2 gIx (eVarO 5) (eC (.int 1))) [.sh (scrD (ns.map PyData.int)), .sh P, .sh N, .sh C, .sh R, .sh (.tuple [.str w, .none]), .own [P, R], .sh (.tuple [.str w, .none]), s8, s9, s10, s11] = some (.bool false) := tv_ev (isi_ev k1 (isi_b rfl))
    exact rt_ev (andb_ev (x := true) (y := true) (vt_ev (e2v hb hb2 (by kernel_rfl))) fun _ => e2v g1 k1 (by kernel_rfl))
  · rw [if_seq (tO_ev (x := true) (y := true) (vt_ev (e2v k1 (y := .bool true) rfl rfl)) fun z => by cases z), Bool.true_or, if_pos rfl]
    have hb : e1 (gIsi "bool") (e2 gIx (eVarO 7) (eC (.int 1))) [.sh (scrD (ns.map PyData.int)), .sh P, .sh N, .sh C, .sh R, .sh (.tuple [.str w, .bool true]), .own [P, R], .sh (.tuple [.str w, .bool true]), s8, s9, s10, s11] = some (.bool true) := tv_ev (isi_ev g1 (isi_b rfl))
    have hb2 : e1 (gIsi "bool") (e2 gIx (eVarO 5) (eC (.int 1))) [.sh (scrD (ns.map PyData.int)), .sh P, .sh N, .sh C, .sh R, .sh (.tuple [.str w, .bool true]), .own [P, R], .sh (.tuple [.str w, .bool true]), s8, s9, s10, s11] = some (.bool true) := tv_ev (isi_ev k1 (isi_b rfl))
    exact rt_ev (andb_ev (x := true) (y := true) (vt_ev (e2v hb hb2 (by kernel_rfl))) fun _ => e2v g1 k1 (by kernel_rfl))
  · rw [if_seq (tO_ev (x := false) (y := false) (vt_ev (e2v k1 (y := .bool true) rfl rfl)) fun _ => vt_ev (isn_ev k1 false)), Bool.false_or, if_neg Bool.false_ne_true, next_seq]
    rw [rt1_ev (andb_ev (x := true) (y := decide (j = j)) (vt_ev (call1_ev g1 (m_lwhole rfl))) fun _ => eqiv_ev g1 k1), decide_eq_true rfl]
    rfl
theorem place_some {o : Option Nat} {x : PyData} (h : (o.map fun k : Nat => PyData.int (k : Int)) = some x) : ∃ j, x = .int j := by
  cases o with
  | none => cases h
  | some k => cases h; exact ⟨_, rfl⟩
theorem badP_form {P : PyData} {x : PyData} (h : badPlots P = some x) : x = .none ∨ x = .bool true ∨ ∃ j, x = .int j := by
  cases P with
  | list l =>
    have h' : (if 12 < l.length then some PyData.none else (scan l [] 0).map fun k : Nat => PyData.int (k : Int)) = some x := h
    split at h'
    · cases h'; exact .inl rfl
    · exact .inr (.inr (place_some h'))
  | none => cases h; exact .inl rfl
  | bool _ => cases h; exact .inl rfl
  | int _ => cases h; exact .inl rfl
  | str _ => cases h; exact .inl rfl
  | tuple _ => cases h; exact .inl rfl
  | dict _ => cases h; exact .inl rfl
theorem badR_form {N : List Str} {P : PyData} {x : PyData} (h : badRows N P = some x) : x = .none ∨ x = .bool true ∨ ∃ j, x = .int j := by
  cases P with
  | list l =>
    have h' : (if 60 < l.length then some PyData.none else (scanR N l.length l 0).map fun k : Nat => PyData.int (k : Int)) = some x := h
    split at h'
    · cases h'; exact .inl rfl
    · exact .inr (.inr (place_some h'))
  | none => cases h; exact .inl rfl
  | bool _ => cases h; exact .inl rfl
  | int _ => cases h; exact .inl rfl
  | str _ => cases h; exact .inl rfl
  | tuple _ => cases h; exact .inl rfl
  | dict _ => cases h; exact .inl rfl
theorem asg_any {f : PL.Env → Option PyData} {G : PyData → PL.Env → Option PL.Env} {env e : PL.Env} {d : PyData} (h : f env = some d) (hg : G d env = some e) : sAsg f G env = some (.nx e) := by
  unfold sAsg
  rw [h, Option.bind_some, hg]
  rfl
set_option maxHeartbeats 1000000 in
theorem law_math (CP CR : Addr) (hne : CR ≠ CP) (ns : List Int) (hns : ns.length ≤ 63) : f_law (f__law_said CP CR) [scrD (ns.map PyData.int)] = some (.bool true) := by
  unfold f_law fnD F_law
  have h0 : fEnv 12 [scrD (ns.map PyData.int)] = [.sh (scrD (ns.map PyData.int)), .un, .un, .un, .un, .un, .un, .un, .un, .un, .un, .un] := rfl
  have hml := manyM_le ns
  have hpl : (plotsM ns).length = manyM ns := plots_len ns
  have hpz : 0 < (plotsM ns).length := by omega
  have hp12 : (plotsM ns).length ≤ 12 := by omega
  have hpo := plots_outT ns
  have hno := names_okT ns
  have hnl := names_len ns
  rw [h0, seq_asg (callN1_ev rfl (m_plots ns))]
  dsimp only [List.set]
  rw [seq_asg (callN2_ev (x := scrD (ns.map PyData.int)) (y := encPs (plotsM ns)) rfl rfl (m_names ns))]
  dsimp only [List.set]
  generalize plotsM ns = ps at *
  generalize namesM ns = nms at *
  obtain ⟨cells0, ec0, lc0⟩ := cut_ints ns (some 6) (some 20)
  have hsl : nSl (eVarO 0) (oSome (eC (.int 6))) (oSome (eC (.int 20))) [.sh (scrD (ns.map PyData.int)), .sh (.list (ps.map encP)), .sh (.list (nms.map PyData.str)), .un, .un, .un, .un, .un, .un, .un, .un, .un] = some (cells0.map PyData.int) := by
    rw [← ec0]
    rfl
  rw [seq_asg (eL_ev hsl)]
  dsimp only [List.set]
  -- the cells
  have s4 : ∃ cells : List Int, (sIf (tE (e2 gEq (e2 (gIC cMod (· % ·)) (e2 (gIC cDiv (· / ·)) (eA (fun ds => if ds.length = 2 then f__law_at ds else none) (aCons (eVar 0) (aCons (eC (.int 3)) aNil))) (eC (.int 18))) (eC (.int 8))) (eC (.int 1)))) (sAsg (eL (nLc (iR1 (aCons (e2 gAdd (eC (.int 40)) (e2 (gIC cMod (· % ·)) (e2 (gIC cDiv (· / ·)) (eA (fun ds => if ds.length = 2 then f__law_at ds else none) (aCons (eVar 0) (aCons (eC (.int 3)) aNil))) (eC (.int 144))) (eC (.int 21)))) aNil)) (tgN 11) (fun _ => some true) (e2 gAdd (e2 (gIC cDiv (· / ·)) (eA (fun ds => if ds.length = 2 then f__law_at ds else none) (aCons (eVar 0) (aCons (e2 gAdd (eC (.int 6)) (e2 (gIC cMod (· % ·)) (eVarO 11) (eC (.int 3)))) aNil))) (eC (.int 7))) (e2 (gIC cMul (· * ·)) (eC (.int 7919)) (eVarO 11))) [11])) (tgN 3)) sNext) [.sh (scrD (ns.map PyData.int)), .sh (.list (ps.map encP)), .sh (.list (nms.map PyData.str)), .sh (.list (cells0.map PyData.int)), .un, .un, .un, .un, .un, .un, .un, .un] = some (.nx [.sh (scrD (ns.map PyData.int)), .sh (.list (ps.map encP)), .sh (.list (nms.map PyData.str)), .sh (.list (cells.map PyData.int)), .un, .un, .un, .un, .un, .un, .un, .un]) ∧ cells.length ≤ 63 := by
    have ht : (tE (e2 gEq (e2 (gIC cMod (· % ·)) (e2 (gIC cDiv (· / ·)) (eA (fun ds => if ds.length = 2 then f__law_at ds else none) (aCons (eVar 0) (aCons (eC (.int 3)) aNil))) (eC (.int 18))) (eC (.int 8))) (eC (.int 1)))) [.sh (scrD (ns.map PyData.int)), .sh (.list (ps.map encP)), .sh (.list (nms.map PyData.str)), .sh (.list (cells0.map PyData.int)), .un, .un, .un, .un, .un, .un, .un, .un] = some (decide (ns.getD 3 0 / 18 % 8 = 1)) := eqi_ev (mod_ev (div_ev (at3_ev rfl) rfl (by omega)) rfl (by omega)) rfl
    cases hb : decide (ns.getD 3 0 / 18 % 8 = 1) with
    | false =>
      rw [hb] at ht
      refine ⟨cells0, ?_, by omega⟩
      rw [if_no ht]
      rfl
    | true =>
      rw [hb] at ht
      obtain ⟨j, hj, ej⟩ := mod_nat (ns.getD 3 0 / 144) 21 (by decide)
      refine ⟨(List.range (40 + j)).map fun k : Nat => ns.getD (6 + k % 3) 0 / 7 + 7919 * (k : Int), ?_, by rw [List.length_map, List.length_range]; omega⟩
      rw [if_yes ht]
      refine asg_nx (d := .list (((List.range (40 + j)).map fun k : Nat => ns.getD (6 + k % 3) 0 / 7 + 7919 * (k : Int)).map PyData.int)) (eL_ev ?_)
      have hr : iR1 (aCons (e2 gAdd (eC (.int 40)) (e2 (gIC cMod (· % ·)) (e2 (gIC cDiv (· / ·)) (eA (fun ds => if ds.length = 2 then f__law_at ds else none) (aCons (eVar 0) (aCons (eC (.int 3)) aNil))) (eC (.int 144))) (eC (.int 21)))) aNil) [.sh (scrD (ns.map PyData.int)), .sh (.list (ps.map encP)), .sh (.list (nms.map PyData.str)), .sh (.list (cells0.map PyData.int)), .un, .un, .un, .un, .un, .un, .un, .un] = some ((List.range (40 + j)).map fun k : Nat => PyData.int (0 + (k : Int))) := by
        unfold iR1
        rw [acons_ev (add_ev rfl ((mod_ev (div_ev (at3_ev rfl) rfl (by omega)) rfl (by omega)).trans (congrArg (fun q => some (PyData.int q)) ej))) anil_ev]
        show (if -100000 ≤ (40 + (j : Int)) ∧ (40 + (j : Int)) ≤ 100000 then some (rgD 0 (40 + (j : Int)).toNat) else none) = _
        rw [if_pos ⟨by omega, by omega⟩, show (40 + (j : Int)).toNat = 40 + j by omega]
        rfl
      unfold nLc
      rw [hr, Option.bind_some, if_pos (by rw [List.length_map, List.length_range]; omega)]
      rw [lc_all (fun d => [.sh (scrD (ns.map PyData.int)), .sh (.list (ps.map encP)), .sh (.list (nms.map PyData.str)), .sh (.list (cells0.map PyData.int)), .un, .un, .un, .un, .un, .un, .un, .sh d]) (fun d => match d with | .int q => .int (ns.getD (6 + q.toNat % 3) 0 / 7 + 7919 * q) | d => d)]
      · rw [List.map_map, List.map_map]
        refine congrArg some (List.map_congr_left fun k _ => ?_)
        show PyData.int (ns.getD (6 + (0 + (k : Int)).toNat % 3) 0 / 7 + 7919 * (0 + (k : Int))) = .int (ns.getD (6 + k % 3) 0 / 7 + 7919 * (k : Int))
        rw [Int.zero_add, Int.toNat_natCast]
      · intro d _
        rfl
      · intro d md
        obtain ⟨k, mk, rfl⟩ := List.mem_map.mp md
        refine add_ev (div_ev (call2_ev (x := scrD (ns.map PyData.int)) rfl (y := .int ((6 + (0 + (k : Int)).toNat % 3 : Nat) : Int)) ?_ (m_at ns _)) rfl (by omega)) (mul_ev rfl rfl (cmul_l (by omega)))
        refine (add_ev (i := 6) (j := (0 + (k : Int)) % 3) rfl (mod_ev (i := 0 + (k : Int)) (j := 3) rfl rfl (by omega))).trans ?_
        congr 2
  obtain ⟨cells, hs4, hcl⟩ := s4
  rw [seq_nx hs4]
  -- the rows
  have hrw : (nLc (iLS (eVarO 3)) (tgN 10) (fun _ => some true) (eA (fun ds => if ds.length = 4 then f__law_row ds else none) (aCons (eVar 10) (aCons (eVar 1) (aCons (eVar 2) (aCons (eA gLen (aCons (eVarO 3) aNil)) aNil))))) [10]) [.sh (scrD (ns.map PyData.int)), .sh (.list (ps.map encP)), .sh (.list (nms.map PyData.str)), .sh (.list (cells.map PyData.int)), .un, .un, .un, .un, .un, .un, .un, .un] = some (cells.map fun c => encR (rowM ps nms c (cells.length : Int))) := by
    have hi : iLS (eVarO 3) [.sh (scrD (ns.map PyData.int)), .sh (.list (ps.map encP)), .sh (.list (nms.map PyData.str)), .sh (.list (cells.map PyData.int)), .un, .un, .un, .un, .un, .un, .un, .un] = some (cells.map PyData.int) := rfl
    unfold nLc
    rw [hi, Option.bind_some, if_pos (by rw [List.length_map]; omega)]
    rw [lc_all (fun d => [.sh (scrD (ns.map PyData.int)), .sh (.list (ps.map encP)), .sh (.list (nms.map PyData.str)), .sh (.list (cells.map PyData.int)), .un, .un, .un, .un, .un, .un, .sh d, .un]) (fun d => match d with | .int q => encR (rowM ps nms q (cells.length : Int)) | d => d)]
    · rw [List.map_map]
      rfl
    · intro d _
      rfl
    · intro d md
      obtain ⟨c, mc, rfl⟩ := List.mem_map.mp md
      refine call4_ev (x := .int c) rfl (y := encPs ps) rfl (u := .list (nms.map PyData.str)) rfl (v := .int (cells.length : Int)) ?_ (m_row ps nms c _ hpz (by omega) (by omega))
      rw [lenl_ev (ds := cells.map PyData.int) rfl, List.length_map]
  have hra : (cells.map fun c => encR (rowM ps nms c (cells.length : Int))).all cR = true := List.all_eq_true.mpr fun d m => by
    obtain ⟨c, mc, rfl⟩ := List.mem_map.mp m
    exact cR_rowM hpz (by omega) (fun q mq => (hpo q mq).1) hno c _
  have hrl : (cells.map fun c => encR (rowM ps nms c (cells.length : Int))).length ≤ 100 := by rw [List.length_map]; omega
  generalize (cells.map fun c => encR (rowM ps nms c (cells.length : Int))) = rows at *
  rw [seq_nx (own_nx hrw)]
  dsimp only [List.set]
  rw [free_ev rfl]
  dsimp only [List.set]
  obtain ⟨P, R, hch, hP, hR⟩ := m_changed ns ps hpo hpz hp12 nms hno (by omega) rows hra hrl
  rw [seq_nx (asg_any (e := [.sh (scrD (ns.map PyData.int)), .sh P, .sh (.list (nms.map PyData.str)), .sh (.list (cells.map PyData.int)), .sh R, .un, .un, .un, .un, .un, .un, .un]) (call4_ev (x := scrD (ns.map PyData.int)) rfl (y := encPs ps) rfl (u := .list rows) rfl (v := .list (nms.map PyData.str)) rfl hch) rfl)]
  have hbp := m_bad_pair hP.nP
  cases hb : badPlots P with
  | some x =>
    rw [hb] at hbp
    rw [seq_nx (asg_any (e := [.sh (scrD (ns.map PyData.int)), .sh P, .sh (.list (nms.map PyData.str)), .sh (.list (cells.map PyData.int)), .sh R, .un, .un, .un, .sh (.bool true), .sh x, .un, .un]) (call1_ev (x := P) rfl hbp) rfl)]
    rw [seq_asg (tup2_ev (x := .str "plots") (y := x) rfl rfl)]
    dsimp only [List.set]
    rw [if_seq (tN_ev (vt_ev (b := true) rfl)), Bool.not_true, if_neg Bool.false_ne_true, next_seq, if_seq (tN_ev (vt_ev (b := true) rfl)), Bool.not_true, if_neg Bool.false_ne_true, next_seq]
    have := fin_ev CP CR hne ns (N := .list (nms.map PyData.str)) (C := .list (cells.map PyData.int)) (s8 := .sh (.bool true)) (s9 := .sh x) (s10 := .un) (s11 := .un) hP hR "plots" x (by unfold saidD; rw [hb]) (by decide +kernel) (badP_form hb)
    exact (congrArg outD this).trans rfl
  | none =>
    rw [hb] at hbp
    rw [seq_nx (asg_any (e := [.sh (scrD (ns.map PyData.int)), .sh P, .sh (.list (nms.map PyData.str)), .sh (.list (cells.map PyData.int)), .sh R, .un, .un, .un, .sh (.bool false), .sh .none, .un, .un]) (call1_ev (x := P) rfl hbp) rfl)]
    rw [seq_asg (tup2_ev (x := .str "plots") (y := .none) rfl rfl)]
    dsimp only [List.set]
    rw [if_seq (tN_ev (vt_ev (b := false) rfl)), Bool.not_false, if_pos rfl]
    have hbr := m_bad_row hP.nP hb hR.nR
    cases hr : badRows (namesD P) R with
    | some x =>
      rw [hr] at hbr
      have e9 : (sSeq (sAsg (eA (fun ds => if ds.length = 2 then f__law_bad_row ds else none) (aCons (eVar 1) (aCons (eVar 4) aNil))) (tgT 2 (tgCons (tgN 8) (tgCons (tgN 9) tgNil))))
    (sAsg (eTup (aCons (eC (.str "rows")) (aCons (eVar 9) aNil))) (tgN 5))) [.sh (scrD (ns.map PyData.int)), .sh P, .sh (.list (nms.map PyData.str)), .sh (.list (cells.map PyData.int)), .sh R, .sh (.tuple [.str "plots", .none]), .un, .un, .sh (.bool false), .sh .none, .un, .un] = some (.nx [.sh (scrD (ns.map PyData.int)), .sh P, .sh (.list (nms.map PyData.str)), .sh (.list (cells.map PyData.int)), .sh R, .sh (.tuple [.str "rows", x]), .un, .un, .sh (.bool true), .sh x, .un, .un]) := by
        rw [seq_nx (asg_any (e := [.sh (scrD (ns.map PyData.int)), .sh P, .sh (.list (nms.map PyData.str)), .sh (.list (cells.map PyData.int)), .sh R, .sh (.tuple [.str "plots", .none]), .un, .un, .sh (.bool true), .sh x, .un, .un]) (call2_ev (x := P) rfl (y := R) rfl hbr) rfl)]
        rfl
      rw [seq_nx e9, if_seq (tN_ev (vt_ev (b := true) rfl)), Bool.not_true, if_neg Bool.false_ne_true, next_seq]
      have := fin_ev CP CR hne ns (N := .list (nms.map PyData.str)) (C := .list (cells.map PyData.int)) (s8 := .sh (.bool true)) (s9 := .sh x) (s10 := .un) (s11 := .un) hP hR "rows" x (by unfold saidD; rw [hb]; dsimp only; rw [hr]) (by decide +kernel) (badR_form hr)
      exact (congrArg outD this).trans rfl
    | none =>
      rw [hr] at hbr
      have e9 : (sSeq (sAsg (eA (fun ds => if ds.length = 2 then f__law_bad_row ds else none) (aCons (eVar 1) (aCons (eVar 4) aNil))) (tgT 2 (tgCons (tgN 8) (tgCons (tgN 9) tgNil))))
    (sAsg (eTup (aCons (eC (.str "rows")) (aCons (eVar 9) aNil))) (tgN 5))) [.sh (scrD (ns.map PyData.int)), .sh P, .sh (.list (nms.map PyData.str)), .sh (.list (cells.map PyData.int)), .sh R, .sh (.tuple [.str "plots", .none]), .un, .un, .sh (.bool false), .sh .none, .un, .un] = some (.nx [.sh (scrD (ns.map PyData.int)), .sh P, .sh (.list (nms.map PyData.str)), .sh (.list (cells.map PyData.int)), .sh R, .sh (.tuple [.str "rows", .none]), .un, .un, .sh (.bool false), .sh .none, .un, .un]) := by
        rw [seq_nx (asg_any (e := [.sh (scrD (ns.map PyData.int)), .sh P, .sh (.list (nms.map PyData.str)), .sh (.list (cells.map PyData.int)), .sh R, .sh (.tuple [.str "plots", .none]), .un, .un, .sh (.bool false), .sh .none, .un, .un]) (call2_ev (x := P) rfl (y := R) rfl hbr) rfl)]
        rfl
      rw [seq_nx e9, if_seq (tN_ev (vt_ev (b := false) rfl)), Bool.not_false, if_pos rfl]
      rw [seq_asg (tup2_ev (x := .str "fine") (y := .bool true) rfl rfl)]
      dsimp only [List.set]
      have := fin_ev CP CR hne ns (N := .list (nms.map PyData.str)) (C := .list (cells.map PyData.int)) (s8 := .sh (.bool false)) (s9 := .sh .none) (s10 := .un) (s11 := .un) hP hR "fine" (.bool true) (by unfold saidD; rw [hb]; dsimp only; rw [hr]) (by decide +kernel) (.inr (.inl rfl))
      exact (congrArg outD this).trans rfl
end K01
namespace K01
open PX PySem L2 PySem.Spec PyProof.Rows PL PR NdefX
/-! The error classes with a field: their `__init__`. -/
abbrev s_BP : Stmt := inClass (topS 2) 0
abbrev s_BR : Stmt := inClass (topS 3) 0
section
variable {P : Program} {w : World} {K : PySem.W.Frag} {mg : Str → Option Value} {base : Heap}
theorem atC_BP {f C cc cda : Addr} {kV doc pm ct oc : Value} {an od : Option Addr} {osl : Array (Option Value)} (T : Sup P K C cc cda "BadPlots.__init__") (hno : PySem.W.findIn K (.ref C) "at" = some none)
    (lk : K.lookup f = some ⟨oc, od, .func (PySem.W.ksFn "__init__" "BadPlots.__init__" (defArgs s_BP) (defBody s_BP) (defScope s_BP) .none kV doc pm an (.ref cda) ct cc), osl⟩)
    (g : mg "BadPlots" = some (.ref C)) (iC : PySem.W.findIn K (.ref C) "__init__" = some (some (.ref f))) (tI : PySem.W.typeIn K (.ref f) = some (.type "function")) : AtC P w K mg base "BadPlots" C "bad plots, at " :=
  ⟨T.oex, g, f, _, iC, tI, init_ok (j := 0) (a0 := ⟨"self", none, _⟩) T hno lk (nscope_by (by decide +kernel)) (by decide +kernel) rfl rfl (by decide +kernel) (by decide +kernel) (by decide +kernel) (fun _ => ⟨_, rfl⟩),
    .all fun us hl => match us, hl with | [_, _], _ => rfl⟩
theorem atC_BR {f C cc cda : Addr} {kV doc pm ct oc : Value} {an od : Option Addr} {osl : Array (Option Value)} (T : Sup P K C cc cda "BadRows.__init__") (hno : PySem.W.findIn K (.ref C) "at" = some none)
    (lk : K.lookup f = some ⟨oc, od, .func (PySem.W.ksFn "__init__" "BadRows.__init__" (defArgs s_BR) (defBody s_BR) (defScope s_BR) .none kV doc pm an (.ref cda) ct cc), osl⟩)
    (g : mg "BadRows" = some (.ref C)) (iC : PySem.W.findIn K (.ref C) "__init__" = some (some (.ref f))) (tI : PySem.W.typeIn K (.ref f) = some (.type "function")) : AtC P w K mg base "BadRows" C "bad rows, at " :=
  ⟨T.oex, g, f, _, iC, tI, init_ok (j := 0) (a0 := ⟨"self", none, _⟩) T hno lk (nscope_by (by decide +kernel)) (by decide +kernel) rfl rfl (by decide +kernel) (by decide +kernel) (by decide +kernel) (fun _ => ⟨_, rfl⟩),
    .all fun us hl => match us, hl with | [_, _], _ => rfl⟩
end
end K01
namespace K01
open PySem L2 PySem.Spec PyProof.Rows PX PL PR

theorem fnok_weak {P : Program} {w : World} {K : PySem.W.Frag} {mg : Str → Option Value} {base : Heap} {CX : CXT} {k : Nat} {f : Addr} {fd : FuncData} {ps : List Str} {sp sp' : Sp} (F : FnOk P w K mg base CX k f fd ps sp) (h : ∀ vs H Q E, sp' vs H Q E → sp vs H Q E) : FnOk P w K mg base CX k f fd ps sp' :=
  ⟨fun vs H Q E q => F.len vs H Q E (h vs H Q E q), fun A outer s H args us vs Q E hr he hb hv q => F.run A outer s H args us vs Q E hr he hb hv (h vs H Q E q)⟩
def spLaw (K : PySem.W.Frag) : Sp := fun vs H Q _ => ∃ (a : Addr) (ns : List Int), vs = [.ref a] ∧ SqL K H a (ns.map V.int) ∧ ns.length ≤ 63 ∧ ∀ H', Q (.bl true) H'
set_option maxHeartbeats 0 in
theorem all_mk {l : PySem.W.OpenLaw} {w : World} {K : PySem.W.Frag} {h : Heap} {mg : Str → Option Value} {fa : Addr} (X : K.In h) (G : h.Ns mainGlobals mg) (hfa : mg "law" = some (.ref fa))
    {CPlotError CBadPlots CBadRows : Addr} {fIBadPlots cc_BadPlots cdaBadPlots NnBadPlots : Addr} {kVBadPlots docBadPlots pmBadPlots ctBadPlots ocBadPlots cclBadPlots clBadPlots : Value} {anBadPlots odBadPlots cddBadPlots cldBadPlots ddBadPlots : Option Addr} {oslBadPlots ccsBadPlots cslBadPlots : Array (Option Value)} {vsBadPlots : Array Value} {fileBadPlots nmBadPlots qnBadPlots : Str} {tfBadPlots : Tok} {bsBadPlots bmBadPlots subBadPlots : List Value} {snBadPlots : List Str} {abBadPlots : Bool} {colBadPlots : Option Bool} {k0BadPlots k1BadPlots k2BadPlots k3BadPlots k5BadPlots : Option Value} {fIBadRows cc_BadRows cdaBadRows NnBadRows : Addr} {kVBadRows docBadRows pmBadRows ctBadRows ocBadRows cclBadRows clBadRows : Value} {anBadRows odBadRows cddBadRows cldBadRows ddBadRows : Option Addr} {oslBadRows ccsBadRows cslBadRows : Array (Option Value)} {vsBadRows : Array Value} {fileBadRows nmBadRows qnBadRows : Str} {tfBadRows : Tok} {bsBadRows bmBadRows subBadRows : List Value} {snBadRows : List Str} {abBadRows : Bool} {colBadRows : Option Bool} {k0BadRows k1BadRows k2BadRows k3BadRows k5BadRows : Option Value}
    {od1 od2 od3 od4 od5 od6 od7 od8 od9 od10 od11 od12 od13 od14 od15 od16 od17 od18 od19 od20 od21 od22 od23 od24 od25 an1 an2 an3 an4 an5 an6 an7 an8 an9 an10 an11 an12 an13 an14 an15 an16 an17 an18 an19 an20 an21 an22 an23 an24 an25 : Option Addr} {sl1 sl2 sl3 sl4 sl5 sl6 sl7 sl8 sl9 sl10 sl11 sl12 sl13 sl14 sl15 sl16 sl17 sl18 sl19 sl20 sl21 sl22 sl23 sl24 sl25 : Array (Option Value)} {oc1 kV1 dc1 pm1 cd1 ct1 oc2 kV2 dc2 pm2 cd2 ct2 oc3 kV3 dc3 pm3 cd3 ct3 oc4 kV4 dc4 pm4 cd4 ct4 oc5 kV5 dc5 pm5 cd5 ct5 oc6 kV6 dc6 pm6 cd6 ct6 oc7 kV7 dc7 pm7 cd7 ct7 oc8 kV8 dc8 pm8 cd8 ct8 oc9 kV9 dc9 pm9 cd9 ct9 oc10 kV10 dc10 pm10 cd10 ct10 oc11 kV11 dc11 pm11 cd11 ct11 oc12 kV12 dc12 pm12 cd12 ct12 oc13 kV13 dc13 pm13 cd13 ct13 oc14 kV14 dc14 pm14 cd14 ct14 oc15 kV15 dc15 pm15 cd15 ct15 oc16 kV16 dc16 pm16 cd16 ct16 oc17 kV17 dc17 pm17 cd17 ct17 oc18 kV18 dc18 pm18 cd18 ct18 oc19 kV19 dc19 pm19 cd19 ct19 oc20 kV20 dc20 pm20 cd20 ct20 oc21 kV21 dc21 pm21 cd21 ct21 oc22 kV22 dc22 pm22 cd22 ct22 oc23 kV23 dc23 pm23 cd23 ct23 oc24 kV24 dc24 pm24 cd24 ct24 oc25 kV25 dc25 pm25 cd25 ct25 : Value} {f1 f2 f3 f4 f5 f6 f7 f8 f9 f10 f11 f12 f13 f14 f15 f16 f17 f18 f19 f20 f21 f22 f23 f24 f25  : Addr} {pSHAPES : Addr} {esSHAPES : Array DictEntry} {nSHAPES : Nat} {tSHAPES0 : Addr} {odTSHAPES0 : Option Addr} {itsSHAPES0 : Array Value} {mSHAPES0 : Nat} {slTSHAPES0 : Array (Option Value)} {tSHAPES1 : Addr} {odTSHAPES1 : Option Addr} {itsSHAPES1 : Array Value} {mSHAPES1 : Nat} {slTSHAPES1 : Array (Option Value)} {tSHAPES2 : Addr} {odTSHAPES2 : Option Addr} {itsSHAPES2 : Array Value} {mSHAPES2 : Nat} {slTSHAPES2 : Array (Option Value)} {tSHAPES3 : Addr} {odTSHAPES3 : Option Addr} {itsSHAPES3 : Array Value} {mSHAPES3 : Nat} {slTSHAPES3 : Array (Option Value)} {tSHAPES4 : Addr} {odTSHAPES4 : Option Addr} {itsSHAPES4 : Array Value} {mSHAPES4 : Nat} {slTSHAPES4 : Array (Option Value)} {tSHAPES5 : Addr} {odTSHAPES5 : Option Addr} {itsSHAPES5 : Array Value} {mSHAPES5 : Nat} {slTSHAPES5 : Array (Option Value)} {tSHAPES6 : Addr} {odTSHAPES6 : Option Addr} {itsSHAPES6 : Array Value} {mSHAPES6 : Nat} {slTSHAPES6 : Array (Option Value)} {tSHAPES7 : Addr} {odTSHAPES7 : Option Addr} {itsSHAPES7 : Array Value} {mSHAPES7 : Nat} {slTSHAPES7 : Array (Option Value)} {tSHAPES8 : Addr} {odTSHAPES8 : Option Addr} {itsSHAPES8 : Array Value} {mSHAPES8 : Nat} {slTSHAPES8 : Array (Option Value)} {tSHAPES9 : Addr} {odTSHAPES9 : Option Addr} {itsSHAPES9 : Array Value} {mSHAPES9 : Nat} {slTSHAPES9 : Array (Option Value)} {t_LETTERS : _} {t_MOST_LETTERS : _} {t_MOST_NUMBER : _} {t_MOST_PLOTS : _} {t_MOST_ROWS : _}
    (a1 : PySem.W.nsIn K mainGlobals "is_number" = some (some (.ref f1)))
    (l1 : K.lookup f1 = some ⟨oc1, od1, .func (PySem.W.fnOf "is_number" "is_number" (defArgs s_is_number) (defBody s_is_number) (defScope s_is_number) .none kV1 dc1 pm1 an1 cd1 ct1), sl1⟩)
    (c1 : PySem.W.codeIn K cd1 "is_number" = true)
    (k1 : PySem.W.keepIn K (.ref f1) = true)
    (a2 : PySem.W.nsIn K mainGlobals "is_whole" = some (some (.ref f2)))
    (l2 : K.lookup f2 = some ⟨oc2, od2, .func (PySem.W.fnOf "is_whole" "is_whole" (defArgs s_is_whole) (defBody s_is_whole) (defScope s_is_whole) .none kV2 dc2 pm2 an2 cd2 ct2), sl2⟩)
    (c2 : PySem.W.codeIn K cd2 "is_whole" = true)
    (k2 : PySem.W.keepIn K (.ref f2) = true)
    (a3 : PySem.W.nsIn K mainGlobals "is_name" = some (some (.ref f3)))
    (l3 : K.lookup f3 = some ⟨oc3, od3, .func (PySem.W.fnOf "is_name" "is_name" (defArgs s_is_name) (defBody s_is_name) (defScope s_is_name) .none kV3 dc3 pm3 an3 cd3 ct3), sl3⟩)
    (c3 : PySem.W.codeIn K cd3 "is_name" = true)
    (k3 : PySem.W.keepIn K (.ref f3) = true)
    (a4 : PySem.W.nsIn K mainGlobals "is_pair" = some (some (.ref f4)))
    (l4 : K.lookup f4 = some ⟨oc4, od4, .func (PySem.W.fnOf "is_pair" "is_pair" (defArgs s_is_pair) (defBody s_is_pair) (defScope s_is_pair) .none kV4 dc4 pm4 an4 cd4 ct4), sl4⟩)
    (c4 : PySem.W.codeIn K cd4 "is_pair" = true)
    (k4 : PySem.W.keepIn K (.ref f4) = true)
    (a5 : PySem.W.nsIn K mainGlobals "is_part" = some (some (.ref f5)))
    (l5 : K.lookup f5 = some ⟨oc5, od5, .func (PySem.W.fnOf "is_part" "is_part" (defArgs s_is_part) (defBody s_is_part) (defScope s_is_part) .none kV5 dc5 pm5 an5 cd5 ct5), sl5⟩)
    (c5 : PySem.W.codeIn K cd5 "is_part" = true)
    (k5 : PySem.W.keepIn K (.ref f5) = true)
    (a6 : PySem.W.nsIn K mainGlobals "is_row" = some (some (.ref f6)))
    (l6 : K.lookup f6 = some ⟨oc6, od6, .func (PySem.W.fnOf "is_row" "is_row" (defArgs s_is_row) (defBody s_is_row) (defScope s_is_row) .none kV6 dc6 pm6 an6 cd6 ct6), sl6⟩)
    (c6 : PySem.W.codeIn K cd6 "is_row" = true)
    (k6 : PySem.W.keepIn K (.ref f6) = true)
    (a7 : PySem.W.nsIn K mainGlobals "need_plots" = some (some (.ref f7)))
    (l7 : K.lookup f7 = some ⟨oc7, od7, .func (PySem.W.fnOf "need_plots" "need_plots" (defArgs s_need_plots) (defBody s_need_plots) (defScope s_need_plots) .none kV7 dc7 pm7 an7 cd7 ct7), sl7⟩)
    (c7 : PySem.W.codeIn K cd7 "need_plots" = true)
    (k7 : PySem.W.keepIn K (.ref f7) = true)
    (a8 : PySem.W.nsIn K mainGlobals "need_rows" = some (some (.ref f8)))
    (l8 : K.lookup f8 = some ⟨oc8, od8, .func (PySem.W.fnOf "need_rows" "need_rows" (defArgs s_need_rows) (defBody s_need_rows) (defScope s_need_rows) .none kV8 dc8 pm8 an8 cd8 ct8), sl8⟩)
    (c8 : PySem.W.codeIn K cd8 "need_rows" = true)
    (k8 : PySem.W.keepIn K (.ref f8) = true)
    (a9 : PySem.W.nsIn K mainGlobals "need" = some (some (.ref f9)))
    (l9 : K.lookup f9 = some ⟨oc9, od9, .func (PySem.W.fnOf "need" "need" (defArgs s_need) (defBody s_need) (defScope s_need) .none kV9 dc9 pm9 an9 cd9 ct9), sl9⟩)
    (c9 : PySem.W.codeIn K cd9 "need" = true)
    (k9 : PySem.W.keepIn K (.ref f9) = true)
    (a10 : PySem.W.nsIn K mainGlobals "_law_at" = some (some (.ref f10)))
    (l10 : K.lookup f10 = some ⟨oc10, od10, .func (PySem.W.fnOf "_law_at" "_law_at" (defArgs s__law_at) (defBody s__law_at) (defScope s__law_at) .none kV10 dc10 pm10 an10 cd10 ct10), sl10⟩)
    (c10 : PySem.W.codeIn K cd10 "_law_at" = true)
    (k10 : PySem.W.keepIn K (.ref f10) = true)
    (a11 : PySem.W.nsIn K mainGlobals "_law_called" = some (some (.ref f11)))
    (l11 : K.lookup f11 = some ⟨oc11, od11, .func (PySem.W.fnOf "_law_called" "_law_called" (defArgs s__law_called) (defBody s__law_called) (defScope s__law_called) .none kV11 dc11 pm11 an11 cd11 ct11), sl11⟩)
    (c11 : PySem.W.codeIn K cd11 "_law_called" = true)
    (k11 : PySem.W.keepIn K (.ref f11) = true)
    (a12 : PySem.W.nsIn K mainGlobals "_law_plots" = some (some (.ref f12)))
    (l12 : K.lookup f12 = some ⟨oc12, od12, .func (PySem.W.fnOf "_law_plots" "_law_plots" (defArgs s__law_plots) (defBody s__law_plots) (defScope s__law_plots) .none kV12 dc12 pm12 an12 cd12 ct12), sl12⟩)
    (c12 : PySem.W.codeIn K cd12 "_law_plots" = true)
    (k12 : PySem.W.keepIn K (.ref f12) = true)
    (a13 : PySem.W.nsIn K mainGlobals "_law_names" = some (some (.ref f13)))
    (l13 : K.lookup f13 = some ⟨oc13, od13, .func (PySem.W.fnOf "_law_names" "_law_names" (defArgs s__law_names) (defBody s__law_names) (defScope s__law_names) .none kV13 dc13 pm13 an13 cd13 ct13), sl13⟩)
    (c13 : PySem.W.codeIn K cd13 "_law_names" = true)
    (k13 : PySem.W.keepIn K (.ref f13) = true)
    (a14 : PySem.W.nsIn K mainGlobals "_law_row" = some (some (.ref f14)))
    (l14 : K.lookup f14 = some ⟨oc14, od14, .func (PySem.W.fnOf "_law_row" "_law_row" (defArgs s__law_row) (defBody s__law_row) (defScope s__law_row) .none kV14 dc14 pm14 an14 cd14 ct14), sl14⟩)
    (c14 : PySem.W.codeIn K cd14 "_law_row" = true)
    (k14 : PySem.W.keepIn K (.ref f14) = true)
    (a15 : PySem.W.nsIn K mainGlobals "_law_whole" = some (some (.ref f15)))
    (l15 : K.lookup f15 = some ⟨oc15, od15, .func (PySem.W.fnOf "_law_whole" "_law_whole" (defArgs s__law_whole) (defBody s__law_whole) (defScope s__law_whole) .none kV15 dc15 pm15 an15 cd15 ct15), sl15⟩)
    (c15 : PySem.W.codeIn K cd15 "_law_whole" = true)
    (k15 : PySem.W.keepIn K (.ref f15) = true)
    (a16 : PySem.W.nsIn K mainGlobals "_law_name" = some (some (.ref f16)))
    (l16 : K.lookup f16 = some ⟨oc16, od16, .func (PySem.W.fnOf "_law_name" "_law_name" (defArgs s__law_name) (defBody s__law_name) (defScope s__law_name) .none kV16 dc16 pm16 an16 cd16 ct16), sl16⟩)
    (c16 : PySem.W.codeIn K cd16 "_law_name" = true)
    (k16 : PySem.W.keepIn K (.ref f16) = true)
    (a17 : PySem.W.nsIn K mainGlobals "_law_bad_pair" = some (some (.ref f17)))
    (l17 : K.lookup f17 = some ⟨oc17, od17, .func (PySem.W.fnOf "_law_bad_pair" "_law_bad_pair" (defArgs s__law_bad_pair) (defBody s__law_bad_pair) (defScope s__law_bad_pair) .none kV17 dc17 pm17 an17 cd17 ct17), sl17⟩)
    (c17 : PySem.W.codeIn K cd17 "_law_bad_pair" = true)
    (k17 : PySem.W.keepIn K (.ref f17) = true)
    (a18 : PySem.W.nsIn K mainGlobals "_law_good_row" = some (some (.ref f18)))
    (l18 : K.lookup f18 = some ⟨oc18, od18, .func (PySem.W.fnOf "_law_good_row" "_law_good_row" (defArgs s__law_good_row) (defBody s__law_good_row) (defScope s__law_good_row) .none kV18 dc18 pm18 an18 cd18 ct18), sl18⟩)
    (c18 : PySem.W.codeIn K cd18 "_law_good_row" = true)
    (k18 : PySem.W.keepIn K (.ref f18) = true)
    (a19 : PySem.W.nsIn K mainGlobals "_law_bad_row" = some (some (.ref f19)))
    (l19 : K.lookup f19 = some ⟨oc19, od19, .func (PySem.W.fnOf "_law_bad_row" "_law_bad_row" (defArgs s__law_bad_row) (defBody s__law_bad_row) (defScope s__law_bad_row) .none kV19 dc19 pm19 an19 cd19 ct19), sl19⟩)
    (c19 : PySem.W.codeIn K cd19 "_law_bad_row" = true)
    (k19 : PySem.W.keepIn K (.ref f19) = true)
    (a20 : PySem.W.nsIn K mainGlobals "_law_sign" = some (some (.ref f20)))
    (l20 : K.lookup f20 = some ⟨oc20, od20, .func (PySem.W.fnOf "_law_sign" "_law_sign" (defArgs s__law_sign) (defBody s__law_sign) (defScope s__law_sign) .none kV20 dc20 pm20 an20 cd20 ct20), sl20⟩)
    (c20 : PySem.W.codeIn K cd20 "_law_sign" = true)
    (k20 : PySem.W.keepIn K (.ref f20) = true)
    (a21 : PySem.W.nsIn K mainGlobals "_law_pair" = some (some (.ref f21)))
    (l21 : K.lookup f21 = some ⟨oc21, od21, .func (PySem.W.fnOf "_law_pair" "_law_pair" (defArgs s__law_pair) (defBody s__law_pair) (defScope s__law_pair) .none kV21 dc21 pm21 an21 cd21 ct21), sl21⟩)
    (c21 : PySem.W.codeIn K cd21 "_law_pair" = true)
    (k21 : PySem.W.keepIn K (.ref f21) = true)
    (a22 : PySem.W.nsIn K mainGlobals "_law_odd_row" = some (some (.ref f22)))
    (l22 : K.lookup f22 = some ⟨oc22, od22, .func (PySem.W.fnOf "_law_odd_row" "_law_odd_row" (defArgs s__law_odd_row) (defBody s__law_odd_row) (defScope s__law_odd_row) .none kV22 dc22 pm22 an22 cd22 ct22), sl22⟩)
    (c22 : PySem.W.codeIn K cd22 "_law_odd_row" = true)
    (k22 : PySem.W.keepIn K (.ref f22) = true)
    (a23 : PySem.W.nsIn K mainGlobals "_law_changed" = some (some (.ref f23)))
    (l23 : K.lookup f23 = some ⟨oc23, od23, .func (PySem.W.fnOf "_law_changed" "_law_changed" (defArgs s__law_changed) (defBody s__law_changed) (defScope s__law_changed) .none kV23 dc23 pm23 an23 cd23 ct23), sl23⟩)
    (c23 : PySem.W.codeIn K cd23 "_law_changed" = true)
    (k23 : PySem.W.keepIn K (.ref f23) = true)
    (a24 : PySem.W.nsIn K mainGlobals "_law_said" = some (some (.ref f24)))
    (l24 : K.lookup f24 = some ⟨oc24, od24, .func (PySem.W.fnOf "_law_said" "_law_said" (defArgs s__law_said) (defBody s__law_said) (defScope s__law_said) .none kV24 dc24 pm24 an24 cd24 ct24), sl24⟩)
    (c24 : PySem.W.codeIn K cd24 "_law_said" = true)
    (k24 : PySem.W.keepIn K (.ref f24) = true)
    (a25 : PySem.W.nsIn K mainGlobals "law" = some (some (.ref f25)))
    (l25 : K.lookup f25 = some ⟨oc25, od25, .func (PySem.W.fnOf "law" "law" (defArgs s_law) (defBody s_law) (defScope s_law) .none kV25 dc25 pm25 an25 cd25 ct25), sl25⟩)
    (c25 : PySem.W.codeIn K cd25 "law" = true)
    (k25 : PySem.W.keepIn K (.ref f25) = true)
    (z_abs : PySem.W.nsIn K mainGlobals "abs" = some none)
    (z_bool : PySem.W.nsIn K mainGlobals "bool" = some none)
    (z_enumerate : PySem.W.nsIn K mainGlobals "enumerate" = some none)
    (z_int : PySem.W.nsIn K mainGlobals "int" = some none)
    (z_isinstance : PySem.W.nsIn K mainGlobals "isinstance" = some none)
    (z_len : PySem.W.nsIn K mainGlobals "len" = some none)
    (z_list : PySem.W.nsIn K mainGlobals "list" = some none)
    (z_max : PySem.W.nsIn K mainGlobals "max" = some none)
    (z_range : PySem.W.nsIn K mainGlobals "range" = some none)
    (z_reversed : PySem.W.nsIn K mainGlobals "reversed" = some none)
    (z_sorted : PySem.W.nsIn K mainGlobals "sorted" = some none)
    (z_str : PySem.W.nsIn K mainGlobals "str" = some none)
    (z_tuple : PySem.W.nsIn K mainGlobals "tuple" = some none)
    (z_zip : PySem.W.nsIn K mainGlobals "zip" = some none)
    (v_LETTERS : PySem.W.nsIn K mainGlobals "LETTERS" = some (some (.str "abcdefghijklmnopqrstuvwxyz" t_LETTERS)))
    (v_MOST_LETTERS : PySem.W.nsIn K mainGlobals "MOST_LETTERS" = some (some (.int 8 t_MOST_LETTERS)))
    (v_MOST_NUMBER : PySem.W.nsIn K mainGlobals "MOST_NUMBER" = some (some (.int 1000000000000000000 t_MOST_NUMBER)))
    (v_MOST_PLOTS : PySem.W.nsIn K mainGlobals "MOST_PLOTS" = some (some (.int 12 t_MOST_PLOTS)))
    (v_MOST_ROWS : PySem.W.nsIn K mainGlobals "MOST_ROWS" = some (some (.int 60 t_MOST_ROWS)))
    (aTSHAPES : PySem.W.nsIn K mainGlobals "SHAPES" = some (some (.ref pSHAPES)))
    (lTSHAPES : K.lookup pSHAPES = some ⟨.type "dict", none, .dict esSHAPES nSHAPES, #[]⟩)
    (dTSHAPES : esSHAPES.toList.map He.keyOf = He.keysIn w.params ["open", "lay", "copy", "same", "add", "tell", "give", "fork", "go", "end"])
    (low_SHAPES : (pSHAPES == sysModules) = false)
    (nTSHAPES0 : PySem.W.nsIn K pSHAPES "open" = some (some (.ref tSHAPES0)))
    (tTSHAPES0 : K.lookup tSHAPES0 = some ⟨.type "tuple", odTSHAPES0, .seq itsSHAPES0 mSHAPES0, slTSHAPES0⟩)
    (sTSHAPES0 : itsSHAPES0.size ≤ 1000)
    (uTSHAPES0 : He.relAll ((["plot"] : List Str).map V.str) itsSHAPES0.toList = true)
    (nTSHAPES1 : PySem.W.nsIn K pSHAPES "lay" = some (some (.ref tSHAPES1)))
    (tTSHAPES1 : K.lookup tSHAPES1 = some ⟨.type "tuple", odTSHAPES1, .seq itsSHAPES1 mSHAPES1, slTSHAPES1⟩)
    (sTSHAPES1 : itsSHAPES1.size ≤ 1000)
    (uTSHAPES1 : He.relAll ((["name", "plot", "number"] : List Str).map V.str) itsSHAPES1.toList = true)
    (nTSHAPES2 : PySem.W.nsIn K pSHAPES "copy" = some (some (.ref tSHAPES2)))
    (tTSHAPES2 : K.lookup tSHAPES2 = some ⟨.type "tuple", odTSHAPES2, .seq itsSHAPES2 mSHAPES2, slTSHAPES2⟩)
    (sTSHAPES2 : itsSHAPES2.size ≤ 1000)
    (uTSHAPES2 : He.relAll ((["name", "name", "plot"] : List Str).map V.str) itsSHAPES2.toList = true)
    (nTSHAPES3 : PySem.W.nsIn K pSHAPES "same" = some (some (.ref tSHAPES3)))
    (tTSHAPES3 : K.lookup tSHAPES3 = some ⟨.type "tuple", odTSHAPES3, .seq itsSHAPES3 mSHAPES3, slTSHAPES3⟩)
    (sTSHAPES3 : itsSHAPES3.size ≤ 1000)
    (uTSHAPES3 : He.relAll ((["name", "name"] : List Str).map V.str) itsSHAPES3.toList = true)
    (nTSHAPES4 : PySem.W.nsIn K pSHAPES "add" = some (some (.ref tSHAPES4)))
    (tTSHAPES4 : K.lookup tSHAPES4 = some ⟨.type "tuple", odTSHAPES4, .seq itsSHAPES4 mSHAPES4, slTSHAPES4⟩)
    (sTSHAPES4 : itsSHAPES4.size ≤ 1000)
    (uTSHAPES4 : He.relAll ((["name", "name"] : List Str).map V.str) itsSHAPES4.toList = true)
    (nTSHAPES5 : PySem.W.nsIn K pSHAPES "tell" = some (some (.ref tSHAPES5)))
    (tTSHAPES5 : K.lookup tSHAPES5 = some ⟨.type "tuple", odTSHAPES5, .seq itsSHAPES5 mSHAPES5, slTSHAPES5⟩)
    (sTSHAPES5 : itsSHAPES5.size ≤ 1000)
    (uTSHAPES5 : He.relAll ((["name"] : List Str).map V.str) itsSHAPES5.toList = true)
    (nTSHAPES6 : PySem.W.nsIn K pSHAPES "give" = some (some (.ref tSHAPES6)))
    (tTSHAPES6 : K.lookup tSHAPES6 = some ⟨.type "tuple", odTSHAPES6, .seq itsSHAPES6 mSHAPES6, slTSHAPES6⟩)
    (sTSHAPES6 : itsSHAPES6.size ≤ 1000)
    (uTSHAPES6 : He.relAll ((["plot"] : List Str).map V.str) itsSHAPES6.toList = true)
    (nTSHAPES7 : PySem.W.nsIn K pSHAPES "fork" = some (some (.ref tSHAPES7)))
    (tTSHAPES7 : K.lookup tSHAPES7 = some ⟨.type "tuple", odTSHAPES7, .seq itsSHAPES7 mSHAPES7, slTSHAPES7⟩)
    (sTSHAPES7 : itsSHAPES7.size ≤ 1000)
    (uTSHAPES7 : He.relAll ((["place"] : List Str).map V.str) itsSHAPES7.toList = true)
    (nTSHAPES8 : PySem.W.nsIn K pSHAPES "go" = some (some (.ref tSHAPES8)))
    (tTSHAPES8 : K.lookup tSHAPES8 = some ⟨.type "tuple", odTSHAPES8, .seq itsSHAPES8 mSHAPES8, slTSHAPES8⟩)
    (sTSHAPES8 : itsSHAPES8.size ≤ 1000)
    (uTSHAPES8 : He.relAll ((["place"] : List Str).map V.str) itsSHAPES8.toList = true)
    (nTSHAPES9 : PySem.W.nsIn K pSHAPES "end" = some (some (.ref tSHAPES9)))
    (tTSHAPES9 : K.lookup tSHAPES9 = some ⟨.type "tuple", odTSHAPES9, .seq itsSHAPES9 mSHAPES9, slTSHAPES9⟩)
    (sTSHAPES9 : itsSHAPES9.size ≤ 1000)
    (uTSHAPES9 : He.relAll (([] : List Str).map V.str) itsSHAPES9.toList = true)
    (ccPlotError : PySem.W.nsIn K mainGlobals "PlotError" = some (some (.ref CPlotError)))
    (xgPlotError : PySem.W.findIn K (.ref CPlotError) "__getattribute__" = some (some (.builtin "BaseException.__getattribute__")))
    (xkPlotError : PySem.W.findIn K (.ref CPlotError) "__getattr__" = some none)
    (xsPlotError : PySem.W.subIn K (.ref CPlotError) (.type "BaseException") = some true)
    (xdPlotError : PySem.W.hasDictIn K CPlotError = true)
    (xaPlotError : PySem.W.findIn K (.ref CPlotError) "__class__" = some (some (.builtin "object.__class__")))
    (xmPlotError : PySem.W.mroIn K CPlotError (.type "object") = some true)
    (xtPlotError : PySem.W.typeIn K (.ref CPlotError) = some (.type "type"))
    (xiPlotError : PySem.W.subIn K (.ref CPlotError) (.ref CPlotError) = some true)
    (xvPlotError : PySem.W.subIn K (.ref CPlotError) (.type "ValueError") = some true)
    (ccBadPlots : PySem.W.nsIn K mainGlobals "BadPlots" = some (some (.ref CBadPlots)))
    (xgBadPlots : PySem.W.findIn K (.ref CBadPlots) "__getattribute__" = some (some (.builtin "BaseException.__getattribute__")))
    (xkBadPlots : PySem.W.findIn K (.ref CBadPlots) "__getattr__" = some none)
    (xsBadPlots : PySem.W.subIn K (.ref CBadPlots) (.type "BaseException") = some true)
    (xdBadPlots : PySem.W.hasDictIn K CBadPlots = true)
    (xaBadPlots : PySem.W.findIn K (.ref CBadPlots) "__class__" = some (some (.builtin "object.__class__")))
    (xmBadPlots : PySem.W.mroIn K CBadPlots (.type "object") = some true)
    (xtBadPlots : PySem.W.typeIn K (.ref CBadPlots) = some (.type "type"))
    (xiBadPlots : PySem.W.subIn K (.ref CBadPlots) (.ref CBadPlots) = some true)
    (xvBadPlots : PySem.W.subIn K (.ref CBadPlots) (.type "ValueError") = some true)
    (ccBadRows : PySem.W.nsIn K mainGlobals "BadRows" = some (some (.ref CBadRows)))
    (xgBadRows : PySem.W.findIn K (.ref CBadRows) "__getattribute__" = some (some (.builtin "BaseException.__getattribute__")))
    (xkBadRows : PySem.W.findIn K (.ref CBadRows) "__getattr__" = some none)
    (xsBadRows : PySem.W.subIn K (.ref CBadRows) (.type "BaseException") = some true)
    (xdBadRows : PySem.W.hasDictIn K CBadRows = true)
    (xaBadRows : PySem.W.findIn K (.ref CBadRows) "__class__" = some (some (.builtin "object.__class__")))
    (xmBadRows : PySem.W.mroIn K CBadRows (.type "object") = some true)
    (xtBadRows : PySem.W.typeIn K (.ref CBadRows) = some (.type "type"))
    (xiBadRows : PySem.W.subIn K (.ref CBadRows) (.ref CBadRows) = some true)
    (xvBadRows : PySem.W.subIn K (.ref CBadRows) (.type "ValueError") = some true)
    (xn : PySem.W.specialIn K (.builtin "object.__class__") "__get__" = some (some (.builtin "getset_descriptor.__get__")))
    (xtk : PySem.W.takesIn K (.builtin "object.__class__") = some true)
    (s_pe : PySem.W.subIn K (.ref CBadPlots) (.ref CPlotError) = some true)
    (s_re : PySem.W.subIn K (.ref CBadRows) (.ref CPlotError) = some true)
    (s_rp : PySem.W.subIn K (.ref CBadRows) (.ref CBadPlots) = some false)
    (z_super : PySem.W.nsIn K mainGlobals "super" = some none)
    (zx_ValueError : PySem.W.nsIn K mainGlobals "ValueError" = some none)
    (tpSuper : (l.prog.main.scope.names.lookup ("super" : Str)).isSome = false)
    (opq : PySem.W.nsIn K cStatics "thirdparty.any" = some none)
    (aiBadPlots : PySem.W.findIn K (.ref CBadPlots) "__init__" = some (some (.ref fIBadPlots)))
    (liBadPlots : K.lookup fIBadPlots = some ⟨ocBadPlots, odBadPlots, .func (PySem.W.ksFn "__init__" "BadPlots.__init__" (defArgs s_BP) (defBody s_BP) (defScope s_BP) .none kVBadPlots docBadPlots pmBadPlots anBadPlots (.ref cdaBadPlots) ctBadPlots cc_BadPlots), oslBadPlots⟩)
    (tiBadPlots : PySem.W.typeIn K (.ref fIBadPlots) = some (.type "function"))
    (lcBadPlots : K.lookup CBadPlots = some (excClassObj nmBadPlots qnBadPlots CBadPlots NnBadPlots bsBadPlots bmBadPlots true snBadPlots subBadPlots abBadPlots colBadPlots ddBadPlots k0BadPlots k1BadPlots k2BadPlots k3BadPlots k5BadPlots "ValueError.__new__"))
    (vmBadPlots : PySem.HandSPX.refsVE bmBadPlots = true)
    (saBadPlots : PySem.W.findIn K (.ref CBadPlots) "__setattr__" = some (some (.builtin "object.__setattr__")))
    (kpBadPlots : PySem.W.keepIn K (.ref CBadPlots) = true)
    (cdBadPlots : PySem.W.codeIn K (.ref cdaBadPlots) "BadPlots.__init__" = true)
    (ldBadPlots : K.lookup cdaBadPlots = some ⟨cclBadPlots, cddBadPlots, .fields vsBadPlots, ccsBadPlots⟩)
    (vdBadPlots : vsBadPlots[2]? = some (.str fileBadPlots tfBadPlots))
    (edBadPlots : ((l.prog.main.file : Str) == fileBadPlots) = true)
    (lqBadPlots : K.lookup cc_BadPlots = some ⟨clBadPlots, cldBadPlots, .cell (some (.ref CBadPlots)), cslBadPlots⟩)
    (moBadPlots : PySem.W.mroIn K CBadPlots (.ref CBadPlots) = some true)
    (suBadPlots : PySem.W.ks_superIn K CBadPlots CBadPlots "__init__" = some (some (.builtin "ValueError.__init__")))
    (noBadPlots : PySem.W.findIn K (.ref CBadPlots) "at" = some none)
    (aiBadRows : PySem.W.findIn K (.ref CBadRows) "__init__" = some (some (.ref fIBadRows)))
    (liBadRows : K.lookup fIBadRows = some ⟨ocBadRows, odBadRows, .func (PySem.W.ksFn "__init__" "BadRows.__init__" (defArgs s_BR) (defBody s_BR) (defScope s_BR) .none kVBadRows docBadRows pmBadRows anBadRows (.ref cdaBadRows) ctBadRows cc_BadRows), oslBadRows⟩)
    (tiBadRows : PySem.W.typeIn K (.ref fIBadRows) = some (.type "function"))
    (lcBadRows : K.lookup CBadRows = some (excClassObj nmBadRows qnBadRows CBadRows NnBadRows bsBadRows bmBadRows true snBadRows subBadRows abBadRows colBadRows ddBadRows k0BadRows k1BadRows k2BadRows k3BadRows k5BadRows "ValueError.__new__"))
    (vmBadRows : PySem.HandSPX.refsVE bmBadRows = true)
    (saBadRows : PySem.W.findIn K (.ref CBadRows) "__setattr__" = some (some (.builtin "object.__setattr__")))
    (kpBadRows : PySem.W.keepIn K (.ref CBadRows) = true)
    (cdBadRows : PySem.W.codeIn K (.ref cdaBadRows) "BadRows.__init__" = true)
    (ldBadRows : K.lookup cdaBadRows = some ⟨cclBadRows, cddBadRows, .fields vsBadRows, ccsBadRows⟩)
    (vdBadRows : vsBadRows[2]? = some (.str fileBadRows tfBadRows))
    (edBadRows : ((l.prog.main.file : Str) == fileBadRows) = true)
    (lqBadRows : K.lookup cc_BadRows = some ⟨clBadRows, cldBadRows, .cell (some (.ref CBadRows)), cslBadRows⟩)
    (moBadRows : PySem.W.mroIn K CBadRows (.ref CBadRows) = some true)
    (suBadRows : PySem.W.ks_superIn K CBadRows CBadRows "__init__" = some (some (.builtin "ValueError.__init__")))
    (noBadRows : PySem.W.findIn K (.ref CBadRows) "at" = some none)
    (nhop : PySem.W.nsIn K pSHAPES "hop" = some none) :
    ∃ fd : FuncData, (∀ (s : Shared) (v : Value), BindsTo s fd ⟨[v], []⟩ [("_law_script", v)]) ∧ ∀ base : Heap, K.In base → base.Ns mainGlobals mg → FnOk l.prog w K mg base CX0 8 fa fd ["_law_script"] (spLaw K) := by
  have e := hfa.symm.trans (PySem.W.mg_of X G a25)
  cases e
  have T : Bt mg := ⟨PySem.W.mg_none_of X G z_abs, PySem.W.mg_none_of X G z_bool, PySem.W.mg_none_of X G z_enumerate, PySem.W.mg_none_of X G z_int, PySem.W.mg_none_of X G z_isinstance, PySem.W.mg_none_of X G z_len, PySem.W.mg_none_of X G z_list, PySem.W.mg_none_of X G z_max, PySem.W.mg_none_of X G z_range, PySem.W.mg_none_of X G z_reversed, PySem.W.mg_none_of X G z_sorted, PySem.W.mg_none_of X G z_str, PySem.W.mg_none_of X G z_tuple, PySem.W.mg_none_of X G z_zip, ⟨_, PySem.W.mg_of X G v_LETTERS⟩, ⟨_, PySem.W.mg_of X G v_MOST_LETTERS⟩, ⟨_, PySem.W.mg_of X G v_MOST_NUMBER⟩, ⟨_, PySem.W.mg_of X G v_MOST_PLOTS⟩, ⟨_, PySem.W.mg_of X G v_MOST_ROWS⟩⟩
  have F1 := fun_mk (st := s_is_number) l1 c1 k1
  have b1 := F1.binds (ps := ["number"]) fun _ _ _ _ _ _ us hl => match us, hl with | [_], _ => rfl
  have F2 := fun_mk (st := s_is_whole) l2 c2 k2
  have b2 := F2.binds (ps := ["number", "low", "high"]) fun _ _ _ _ _ _ us hl => match us, hl with | [_, _, _], _ => rfl
  have F3 := fun_mk (st := s_is_name) l3 c3 k3
  have b3 := F3.binds (ps := ["text"]) fun _ _ _ _ _ _ us hl => match us, hl with | [_], _ => rfl
  have F4 := fun_mk (st := s_is_pair) l4 c4 k4
  have b4 := F4.binds (ps := ["pair", "ahead"]) fun _ _ _ _ _ _ us hl => match us, hl with | [_, _], _ => rfl
  have F5 := fun_mk (st := s_is_part) l5 c5 k5
  have b5 := F5.binds (ps := ["part", "kind", "names", "last"]) fun _ _ _ _ _ _ us hl => match us, hl with | [_, _, _, _], _ => rfl
  have F6 := fun_mk (st := s_is_row) l6 c6 k6
  have b6 := F6.binds (ps := ["row", "names", "last"]) fun _ _ _ _ _ _ us hl => match us, hl with | [_, _, _], _ => rfl
  have F7 := fun_mk (st := s_need_plots) l7 c7 k7
  have b7 := F7.binds (ps := ["plots"]) fun _ _ _ _ _ _ us hl => match us, hl with | [_], _ => rfl
  have F8 := fun_mk (st := s_need_rows) l8 c8 k8
  have b8 := F8.binds (ps := ["names", "rows"]) fun _ _ _ _ _ _ us hl => match us, hl with | [_, _], _ => rfl
  have F9 := fun_mk (st := s_need) l9 c9 k9
  have b9 := F9.binds (ps := ["plots", "rows"]) fun _ _ _ _ _ _ us hl => match us, hl with | [_, _], _ => rfl
  have F10 := fun_mk (st := s__law_at) l10 c10 k10
  have b10 := F10.binds (ps := ["_law_script", "_law_k"]) fun _ _ _ _ _ _ us hl => match us, hl with | [_, _], _ => rfl
  have F11 := fun_mk (st := s__law_called) l11 c11 k11
  have b11 := F11.binds (ps := ["_law_cell", "_law_k", "_law_signs"]) fun _ _ _ _ _ _ us hl => match us, hl with | [_, _, _], _ => rfl
  have F12 := fun_mk (st := s__law_plots) l12 c12 k12
  have b12 := F12.binds (ps := ["_law_script"]) fun _ _ _ _ _ _ us hl => match us, hl with | [_], _ => rfl
  have F13 := fun_mk (st := s__law_names) l13 c13 k13
  have b13 := F13.binds (ps := ["_law_script", "_law_plots_here"]) fun _ _ _ _ _ _ us hl => match us, hl with | [_, _], _ => rfl
  have F14 := fun_mk (st := s__law_row) l14 c14 k14
  have b14 := F14.binds (ps := ["_law_cell", "_law_plots_here", "_law_names_here", "_law_size"]) fun _ _ _ _ _ _ us hl => match us, hl with | [_, _, _, _], _ => rfl
  have F15 := fun_mk (st := s__law_whole) l15 c15 k15
  have b15 := F15.binds (ps := ["_law_thing"]) fun _ _ _ _ _ _ us hl => match us, hl with | [_], _ => rfl
  have F16 := fun_mk (st := s__law_name) l16 c16 k16
  have b16 := F16.binds (ps := ["_law_thing"]) fun _ _ _ _ _ _ us hl => match us, hl with | [_], _ => rfl
  have F17 := fun_mk (st := s__law_bad_pair) l17 c17 k17
  have b17 := F17.binds (ps := ["_law_plots_here"]) fun _ _ _ _ _ _ us hl => match us, hl with | [_], _ => rfl
  have F18 := fun_mk (st := s__law_good_row) l18 c18 k18
  have b18 := F18.binds (ps := ["_law_row_here", "_law_known", "_law_size"]) fun _ _ _ _ _ _ us hl => match us, hl with | [_, _, _], _ => rfl
  have F19 := fun_mk (st := s__law_bad_row) l19 c19 k19
  have b19 := F19.binds (ps := ["_law_plots_here", "_law_rows"]) fun _ _ _ _ _ _ us hl => match us, hl with | [_, _], _ => rfl
  have F20 := fun_mk (st := s__law_sign) l20 c20 k20
  have b20 := F20.binds (ps := ["_law_cell"]) fun _ _ _ _ _ _ us hl => match us, hl with | [_], _ => rfl
  have F21 := fun_mk (st := s__law_pair) l21 c21 k21
  have b21 := F21.binds (ps := ["_law_cell", "_law_plots_here", "_law_at_here"]) fun _ _ _ _ _ _ us hl => match us, hl with | [_, _, _], _ => rfl
  have F22 := fun_mk (st := s__law_odd_row) l22 c22 k22
  have b22 := F22.binds (ps := ["_law_cell", "_law_plots_here", "_law_names_here", "_law_size"]) fun _ _ _ _ _ _ us hl => match us, hl with | [_, _, _, _], _ => rfl
  have F23 := fun_mk (st := s__law_changed) l23 c23 k23
  have b23 := F23.binds (ps := ["_law_script", "_law_plots_here", "_law_rows", "_law_names_here"]) fun _ _ _ _ _ _ us hl => match us, hl with | [_, _, _, _], _ => rfl
  have F24 := fun_mk (st := s__law_said) l24 c24 k24
  have b24 := F24.binds (ps := ["_law_kind", "_law_plots_here", "_law_rows"]) fun _ _ _ _ _ _ us hl => match us, hl with | [_, _, _], _ => rfl
  have F25 := fun_mk (st := s_law) l25 c25 k25
  have b25 := F25.binds (ps := ["_law_script"]) fun _ _ _ _ _ _ us hl => match us, hl with | [_], _ => rfl
  have TB_SHAPES : TabOk K w pSHAPES tab_SHAPES := ⟨fun q m => by
    simp only [tab_SHAPES, List.mem_cons, List.not_mem_nil, or_false] at m
    rcases m with rfl | rfl | rfl | rfl | rfl | rfl | rfl | rfl | rfl | rfl
    · exact tab_at lTSHAPES dTSHAPES nTSHAPES0 tTSHAPES0 sTSHAPES0 uTSHAPES0
    · exact tab_at lTSHAPES dTSHAPES nTSHAPES1 tTSHAPES1 sTSHAPES1 uTSHAPES1
    · exact tab_at lTSHAPES dTSHAPES nTSHAPES2 tTSHAPES2 sTSHAPES2 uTSHAPES2
    · exact tab_at lTSHAPES dTSHAPES nTSHAPES3 tTSHAPES3 sTSHAPES3 uTSHAPES3
    · exact tab_at lTSHAPES dTSHAPES nTSHAPES4 tTSHAPES4 sTSHAPES4 uTSHAPES4
    · exact tab_at lTSHAPES dTSHAPES nTSHAPES5 tTSHAPES5 sTSHAPES5 uTSHAPES5
    · exact tab_at lTSHAPES dTSHAPES nTSHAPES6 tTSHAPES6 sTSHAPES6 uTSHAPES6
    · exact tab_at lTSHAPES dTSHAPES nTSHAPES7 tTSHAPES7 sTSHAPES7 uTSHAPES7
    · exact tab_at lTSHAPES dTSHAPES nTSHAPES8 tTSHAPES8 sTSHAPES8 uTSHAPES8
    · exact tab_at lTSHAPES dTSHAPES nTSHAPES9 tTSHAPES9 sTSHAPES9 uTSHAPES9
    ⟩
  have no_SHAPES : TabNo K w pSHAPES miss_SHAPES := ⟨_, _, lTSHAPES, He.keysLit_of dTSHAPES, fun z m => by
    simp only [miss_SHAPES, List.mem_cons, List.not_mem_nil, or_false] at m
    subst m
    exact nhop⟩
  have mT_SHAPES := PySem.W.mg_of X G aTSHAPES
  refine ⟨PySem.W.fnOf "law" "law" (defArgs s_law) (defBody s_law) (defScope s_law) .none kV25 dc25 pm25 an25 cd25 ct25, fun s v => .of_eq rfl, fun base _ _ => ?_⟩
  have Cis_number : Cal l.prog w K mg base 1 "is_number" 1 ["number"] f_is_number := ⟨_, _, ok_is_number F1 T, PySem.W.mg_of X G a1, k1, b1⟩
  have Cis_whole : Cal l.prog w K mg base 2 "is_whole" 3 ["number", "low", "high"] f_is_whole := ⟨_, _, ok_is_whole F2 T Cis_number, PySem.W.mg_of X G a2, k2, b2⟩
  have Cis_name : Cal l.prog w K mg base 1 "is_name" 1 ["text"] f_is_name := ⟨_, _, ok_is_name F3 T, PySem.W.mg_of X G a3, k3, b3⟩
  have Cis_pair : Cal l.prog w K mg base 2 "is_pair" 2 ["pair", "ahead"] f_is_pair := ⟨_, _, ok_is_pair F4 T Cis_name, PySem.W.mg_of X G a4, k4, b4⟩
  have Cis_part : Cal l.prog w K mg base 3 "is_part" 4 ["part", "kind", "names", "last"] f_is_part := ⟨_, _, ok_is_part F5 T Cis_name Cis_whole, PySem.W.mg_of X G a5, k5, b5⟩
  have Cis_row : Cal l.prog w K mg base 4 "is_row" 3 ["row", "names", "last"] f_is_row := ⟨_, _, ok_is_row F6 T TB_SHAPES low_SHAPES no_SHAPES mT_SHAPES Cis_part, PySem.W.mg_of X G a6, k6, b6⟩
  have Cneed_plots : CalN l.prog w K mg base 3 "need_plots" 1 ["plots"] f_need_plots := ⟨_, _, ok_need_plots F7 T Cis_pair, PySem.W.mg_of X G a7, k7, b7⟩
  have Cneed_rows : Cal l.prog w K mg base 5 "need_rows" 2 ["names", "rows"] f_need_rows := ⟨_, _, ok_need_rows F8 T Cis_row, PySem.W.mg_of X G a8, k8, b8⟩
  have Cneed : Cal l.prog w K mg base 6 "need" 2 ["plots", "rows"] f_need := ⟨_, _, ok_need F9 T Cneed_plots Cneed_rows, PySem.W.mg_of X G a9, k9, b9⟩
  have WPlotError : ErrF K CPlotError := ⟨⟨xgPlotError, xkPlotError, xsPlotError, xdPlotError, xaPlotError, xn, xtk, xmPlotError⟩, xtPlotError, xiPlotError, xvPlotError⟩
  have gcPlotError := PySem.W.mg_of X G ccPlotError
  have WBadPlots : ErrF K CBadPlots := ⟨⟨xgBadPlots, xkBadPlots, xsBadPlots, xdBadPlots, xaBadPlots, xn, xtk, xmBadPlots⟩, xtBadPlots, xiBadPlots, xvBadPlots⟩
  have gcBadPlots := PySem.W.mg_of X G ccBadPlots
  have WBadRows : ErrF K CBadRows := ⟨⟨xgBadRows, xkBadRows, xsBadRows, xdBadRows, xaBadRows, xn, xtk, xmBadRows⟩, xtBadRows, xiBadRows, xvBadRows⟩
  have gcBadRows := PySem.W.mg_of X G ccBadRows
  have UBadPlots : Sup l.prog K CBadPlots cc_BadPlots cdaBadPlots "BadPlots.__init__" := ⟨⟨⟨_, _, _, _, _, _, _, _, _, _, _, _, _, _, _, lcBadPlots, vmBadPlots⟩, saBadPlots, xsBadPlots, xtBadPlots, kpBadPlots⟩, cdBadPlots, ⟨_, _, _, _, _, _, ldBadPlots, vdBadPlots, edBadPlots⟩, ⟨_, _, _, lqBadPlots⟩, moBadPlots, z_super, tpSuper, opq, suBadPlots, xvBadPlots⟩
  have EBadPlots : AtC l.prog w K mg base "BadPlots" CBadPlots "bad plots, at " := atC_BP UBadPlots noBadPlots liBadPlots gcBadPlots aiBadPlots tiBadPlots
  have XFBadPlots : XfC K CBadPlots := ⟨xgBadPlots, xkBadPlots, xsBadPlots, xdBadPlots⟩
  have UBadRows : Sup l.prog K CBadRows cc_BadRows cdaBadRows "BadRows.__init__" := ⟨⟨⟨_, _, _, _, _, _, _, _, _, _, _, _, _, _, _, lcBadRows, vmBadRows⟩, saBadRows, xsBadRows, xtBadRows, kpBadRows⟩, cdBadRows, ⟨_, _, _, _, _, _, ldBadRows, vdBadRows, edBadRows⟩, ⟨_, _, _, lqBadRows⟩, moBadRows, z_super, tpSuper, opq, suBadRows, xvBadRows⟩
  have EBadRows : AtC l.prog w K mg base "BadRows" CBadRows "bad rows, at " := atC_BR UBadRows noBadRows liBadRows gcBadRows aiBadRows tiBadRows
  have XFBadRows : XfC K CBadRows := ⟨xgBadRows, xkBadRows, xsBadRows, xdBadRows⟩
  have R : ErrsS K mg CPlotError CBadPlots CBadRows := ⟨gcPlotError, gcBadPlots, gcBadRows, WPlotError, WBadPlots, WBadRows, XFBadPlots, XFBadRows, noBadPlots, noBadRows, s_pe, s_re, s_rp⟩
  have zV : mg "ValueError" = none := PySem.W.mg_none_of X G zx_ValueError
  have Xneed_plots : CalX l.prog w K mg base 3 "need_plots" 1 ["plots"] (fX_need_plots CBadPlots) := ⟨_, _, okX_need_plots F7 T EBadPlots Cis_pair, PySem.W.mg_of X G a7, k7, b7⟩
  have Xneed_rows : CalX l.prog w K mg base 5 "need_rows" 2 ["names", "rows"] (fX_need_rows CBadRows) := ⟨_, _, okX_need_rows F8 T EBadRows Cis_row, PySem.W.mg_of X G a8, k8, b8⟩
  have Xneed : CalX l.prog w K mg base 6 "need" 2 ["plots", "rows"] (fX_need CBadPlots CBadRows) := ⟨_, _, okX_need F9 T Xneed_plots Xneed_rows, PySem.W.mg_of X G a9, k9, b9⟩
  have ePR : CBadRows ≠ CBadPlots := fun z => by rw [z] at s_rp; rw [xiBadPlots] at s_rp; cases s_rp
  have C_law_at : Cal l.prog w K mg base 1 "_law_at" 2 ["_law_script", "_law_k"] f__law_at := ⟨_, _, ok__law_at F10 T, PySem.W.mg_of X G a10, k10, b10⟩
  have C_law_called : Cal l.prog w K mg base 1 "_law_called" 3 ["_law_cell", "_law_k", "_law_signs"] f__law_called := ⟨_, _, ok__law_called F11 T, PySem.W.mg_of X G a11, k11, b11⟩
  have C_law_plots : CalN l.prog w K mg base 2 "_law_plots" 1 ["_law_script"] f__law_plots := ⟨_, _, ok__law_plots F12 T C_law_at C_law_called, PySem.W.mg_of X G a12, k12, b12⟩
  have C_law_names : CalN l.prog w K mg base 2 "_law_names" 2 ["_law_script", "_law_plots_here"] f__law_names := ⟨_, _, ok__law_names F13 T C_law_at C_law_called, PySem.W.mg_of X G a13, k13, b13⟩
  have C_law_row : Cal l.prog w K mg base 1 "_law_row" 4 ["_law_cell", "_law_plots_here", "_law_names_here", "_law_size"] f__law_row := ⟨_, _, ok__law_row F14 T, PySem.W.mg_of X G a14, k14, b14⟩
  have C_law_whole : Cal l.prog w K mg base 1 "_law_whole" 1 ["_law_thing"] f__law_whole := ⟨_, _, ok__law_whole F15 T, PySem.W.mg_of X G a15, k15, b15⟩
  have C_law_name : Cal l.prog w K mg base 1 "_law_name" 1 ["_law_thing"] f__law_name := ⟨_, _, ok__law_name F16 T, PySem.W.mg_of X G a16, k16, b16⟩
  have C_law_bad_pair : Cal l.prog w K mg base 2 "_law_bad_pair" 1 ["_law_plots_here"] f__law_bad_pair := ⟨_, _, ok__law_bad_pair F17 T C_law_name, PySem.W.mg_of X G a17, k17, b17⟩
  have C_law_good_row : Cal l.prog w K mg base 2 "_law_good_row" 3 ["_law_row_here", "_law_known", "_law_size"] f__law_good_row := ⟨_, _, ok__law_good_row F18 T C_law_name C_law_whole, PySem.W.mg_of X G a18, k18, b18⟩
  have C_law_bad_row : Cal l.prog w K mg base 3 "_law_bad_row" 2 ["_law_plots_here", "_law_rows"] f__law_bad_row := ⟨_, _, ok__law_bad_row F19 T C_law_good_row, PySem.W.mg_of X G a19, k19, b19⟩
  have C_law_sign : Cal l.prog w K mg base 1 "_law_sign" 1 ["_law_cell"] f__law_sign := ⟨_, _, ok__law_sign F20 T, PySem.W.mg_of X G a20, k20, b20⟩
  have C_law_pair : Cal l.prog w K mg base 2 "_law_pair" 3 ["_law_cell", "_law_plots_here", "_law_at_here"] f__law_pair := ⟨_, _, ok__law_pair F21 T C_law_sign, PySem.W.mg_of X G a21, k21, b21⟩
  have C_law_odd_row : Cal l.prog w K mg base 2 "_law_odd_row" 4 ["_law_cell", "_law_plots_here", "_law_names_here", "_law_size"] f__law_odd_row := ⟨_, _, ok__law_odd_row F22 T C_law_sign, PySem.W.mg_of X G a22, k22, b22⟩
  have C_law_changed : Cal l.prog w K mg base 3 "_law_changed" 4 ["_law_script", "_law_plots_here", "_law_rows", "_law_names_here"] f__law_changed := ⟨_, _, ok__law_changed F23 T C_law_at C_law_pair C_law_odd_row, PySem.W.mg_of X G a23, k23, b23⟩
  have C_law_said : Cal l.prog w K mg base 7 "_law_said" 3 ["_law_kind", "_law_plots_here", "_law_rows"] (f__law_said CBadPlots CBadRows) := ⟨_, _, ok__law_said F24 T R zV Xneed, PySem.W.mg_of X G a24, k24, b24⟩
  have GL := ok_law F25 T C_law_plots C_law_names C_law_at C_law_row C_law_changed C_law_bad_pair C_law_bad_row C_law_said C_law_whole
  refine fnok_weak GL fun vs H Q E hq => ?_
  obtain ⟨a, ns, rfl, hS, hlen, k⟩ := hq
  refine ⟨fun _ => false, [scrD (ns.map PyData.int)], .bool true, rfl, (fun _ z => by cases z), .cons (.scr (ex_l vis_no hS)) .nil, law_math CBadPlots CBadRows ePR ns hlen, fun v H' _ _ r => ?_⟩
  cases r
  exact k H'
theorem walk {l : PySem.W.OpenLaw} {q : Program} {loose : List Str} {XP : (Str → Option Value) → Heap → Prop} {YP : World → Heap → Prop} {d : DefRec} {K : Params → PySem.W.Frag} (hn : l.most = some 63) (hdf : d.params.defaults = [])
    (hY : ∀ (w : World) (h : Heap), YP w h → (K w.params).In h)
    (F : ∀ (w : World) (mg : Str → Option Value) (fa : Addr) (h : Heap), (K w.params).In h → h.Ns mainGlobals mg → mg d.name = some (.ref fa) →
      ∃ fd : FuncData, (∀ (s : Shared) (u : Value), BindsTo s fd ⟨[u], []⟩ [("_law_script", u)]) ∧ ∀ base : Heap, (K w.params).In base → base.Ns mainGlobals mg → FnOk l.prog w (K w.params) mg base CX0 8 fa fd ["_law_script"] (spLaw (K w.params))) :
    PySem.W.WalkO q loose XP YP l.row.toRowW d [] (fun f vs => PySem.call f vs) :=
  L2.walk_of (n := 63) (k := 8) (x := "_law_script") (CX := fun _ => CX0) (sp := fun w => spLaw (K w.params)) hn (by decide) hdf ⟨rfl, by decide, by decide⟩ hY F (fun _ _ a ns hl _ hS => ⟨a, ns, rfl, hS, hl, fun _ => rfl⟩) fun _ _ _ _ _ z => z

end K01

open PySem PySem.W PyProof.Rows in
set_option maxRecDepth 100000 in
set_option maxHeartbeats 0 in
theorem PySem.Challenge.cw_plotfree_k01_programs_let_by_holds : PySem.Challenge.rw_plotfree_k01_programs_let_by.Holds := by
  w_on; o_law; k_head; (case hw => w_witness2)
  k_fill
  refine K01.walk (l := PySem.Challenge.rw_plotfree_k01_programs_let_by) rfl rfl (fun w h Y => PySem.W.kIn_of Y) ?F
  case F =>
    intro w mg fa h KX G hmg
    refine' K01.all_mk KX G hmg ?a1 ?l1 ?c1 ?k1 ?a2 ?l2 ?c2 ?k2 ?a3 ?l3 ?c3 ?k3 ?a4 ?l4 ?c4 ?k4 ?a5 ?l5 ?c5 ?k5 ?a6 ?l6 ?c6 ?k6 ?a7 ?l7 ?c7 ?k7 ?a8 ?l8 ?c8 ?k8 ?a9 ?l9 ?c9 ?k9 ?a10 ?l10 ?c10 ?k10 ?a11 ?l11 ?c11 ?k11 ?a12 ?l12 ?c12 ?k12 ?a13 ?l13 ?c13 ?k13 ?a14 ?l14 ?c14 ?k14 ?a15 ?l15 ?c15 ?k15 ?a16 ?l16 ?c16 ?k16 ?a17 ?l17 ?c17 ?k17 ?a18 ?l18 ?c18 ?k18 ?a19 ?l19 ?c19 ?k19 ?a20 ?l20 ?c20 ?k20 ?a21 ?l21 ?c21 ?k21 ?a22 ?l22 ?c22 ?k22 ?a23 ?l23 ?c23 ?k23 ?a24 ?l24 ?c24 ?k24 ?a25 ?l25 ?c25 ?k25 ?z_abs ?z_bool ?z_enumerate ?z_int ?z_isinstance ?z_len ?z_list ?z_max ?z_range ?z_reversed ?z_sorted ?z_str ?z_tuple ?z_zip ?v_LETTERS ?v_MOST_LETTERS ?v_MOST_NUMBER ?v_MOST_PLOTS ?v_MOST_ROWS ?aTSHAPES ?lTSHAPES ?dTSHAPES ?low_SHAPES ?nTSHAPES0 ?tTSHAPES0 ?sTSHAPES0 ?uTSHAPES0 ?nTSHAPES1 ?tTSHAPES1 ?sTSHAPES1 ?uTSHAPES1 ?nTSHAPES2 ?tTSHAPES2 ?sTSHAPES2 ?uTSHAPES2 ?nTSHAPES3 ?tTSHAPES3 ?sTSHAPES3 ?uTSHAPES3 ?nTSHAPES4 ?tTSHAPES4 ?sTSHAPES4 ?uTSHAPES4 ?nTSHAPES5 ?tTSHAPES5 ?sTSHAPES5 ?uTSHAPES5 ?nTSHAPES6 ?tTSHAPES6 ?sTSHAPES6 ?uTSHAPES6 ?nTSHAPES7 ?tTSHAPES7 ?sTSHAPES7 ?uTSHAPES7 ?nTSHAPES8 ?tTSHAPES8 ?sTSHAPES8 ?uTSHAPES8 ?nTSHAPES9 ?tTSHAPES9 ?sTSHAPES9 ?uTSHAPES9 ?ccPlotError ?xgPlotError ?xkPlotError ?xsPlotError ?xdPlotError ?xaPlotError ?xmPlotError ?xtPlotError ?xiPlotError ?xvPlotError ?ccBadPlots ?xgBadPlots ?xkBadPlots ?xsBadPlots ?xdBadPlots ?xaBadPlots ?xmBadPlots ?xtBadPlots ?xiBadPlots ?xvBadPlots ?ccBadRows ?xgBadRows ?xkBadRows ?xsBadRows ?xdBadRows ?xaBadRows ?xmBadRows ?xtBadRows ?xiBadRows ?xvBadRows ?xn ?xtk ?s_pe ?s_re ?s_rp ?z_super ?zx_ValueError ?tpSuper ?opq ?aiBadPlots ?liBadPlots ?tiBadPlots ?lcBadPlots ?vmBadPlots ?saBadPlots ?kpBadPlots ?cdBadPlots ?ldBadPlots ?vdBadPlots ?edBadPlots ?lqBadPlots ?moBadPlots ?suBadPlots ?noBadPlots ?aiBadRows ?liBadRows ?tiBadRows ?lcBadRows ?vmBadRows ?saBadRows ?kpBadRows ?cdBadRows ?ldBadRows ?vdBadRows ?edBadRows ?lqBadRows ?moBadRows ?suBadRows ?noBadRows ?nhop
    (case a1 => k_is)
    (case l1 => k_is)
    (case c1 => k_is)
    (case k1 => k_is)
    (case a2 => k_is)
    (case l2 => k_is)
    (case c2 => k_is)
    (case k2 => k_is)
    (case a3 => k_is)
    (case l3 => k_is)
    (case c3 => k_is)
    (case k3 => k_is)
    (case a4 => k_is)
    (case l4 => k_is)
    (case c4 => k_is)
    (case k4 => k_is)
    (case a5 => k_is)
    (case l5 => k_is)
    (case c5 => k_is)
    (case k5 => k_is)
    (case a6 => k_is)
    (case l6 => k_is)
    (case c6 => k_is)
    (case k6 => k_is)
    (case a7 => k_is)
    (case l7 => k_is)
    (case c7 => k_is)
    (case k7 => k_is)
    (case a8 => k_is)
    (case l8 => k_is)
    (case c8 => k_is)
    (case k8 => k_is)
    (case a9 => k_is)
    (case l9 => k_is)
    (case c9 => k_is)
    (case k9 => k_is)
    (case a10 => k_is)
    (case l10 => k_is)
    (case c10 => k_is)
    (case k10 => k_is)
    (case a11 => k_is)
    (case l11 => k_is)
    (case c11 => k_is)
    (case k11 => k_is)
    (case a12 => k_is)
    (case l12 => k_is)
    (case c12 => k_is)
    (case k12 => k_is)
    (case a13 => k_is)
    (case l13 => k_is)
    (case c13 => k_is)
    (case k13 => k_is)
    (case a14 => k_is)
    (case l14 => k_is)
    (case c14 => k_is)
    (case k14 => k_is)
    (case a15 => k_is)
    (case l15 => k_is)
    (case c15 => k_is)
    (case k15 => k_is)
    (case a16 => k_is)
    (case l16 => k_is)
    (case c16 => k_is)
    (case k16 => k_is)
    (case a17 => k_is)
    (case l17 => k_is)
    (case c17 => k_is)
    (case k17 => k_is)
    (case a18 => k_is)
    (case l18 => k_is)
    (case c18 => k_is)
    (case k18 => k_is)
    (case a19 => k_is)
    (case l19 => k_is)
    (case c19 => k_is)
    (case k19 => k_is)
    (case a20 => k_is)
    (case l20 => k_is)
    (case c20 => k_is)
    (case k20 => k_is)
    (case a21 => k_is)
    (case l21 => k_is)
    (case c21 => k_is)
    (case k21 => k_is)
    (case a22 => k_is)
    (case l22 => k_is)
    (case c22 => k_is)
    (case k22 => k_is)
    (case a23 => k_is)
    (case l23 => k_is)
    (case c23 => k_is)
    (case k23 => k_is)
    (case a24 => k_is)
    (case l24 => k_is)
    (case c24 => k_is)
    (case k24 => k_is)
    (case a25 => k_is)
    (case l25 => k_is)
    (case c25 => k_is)
    (case k25 => k_is)
    (case z_abs => k_is)
    (case z_bool => k_is)
    (case z_enumerate => k_is)
    (case z_int => k_is)
    (case z_isinstance => k_is)
    (case z_len => k_is)
    (case z_list => k_is)
    (case z_max => k_is)
    (case z_range => k_is)
    (case z_reversed => k_is)
    (case z_sorted => k_is)
    (case z_str => k_is)
    (case z_tuple => k_is)
    (case z_zip => k_is)
    (case v_LETTERS => k_is)
    (case v_MOST_LETTERS => k_is)
    (case v_MOST_NUMBER => k_is)
    (case v_MOST_PLOTS => k_is)
    (case v_MOST_ROWS => k_is)
    (case aTSHAPES => k_is)
    (case lTSHAPES => k_is)
    (case dTSHAPES => rfl)
    (case low_SHAPES => rfl)
    (case nTSHAPES0 => k_is)
    (case tTSHAPES0 => k_is)
    (case sTSHAPES0 => exact Nat.le_of_ble_eq_true rfl)
    (case uTSHAPES0 => rfl)
    (case nTSHAPES1 => k_is)
    (case tTSHAPES1 => k_is)
    (case sTSHAPES1 => exact Nat.le_of_ble_eq_true rfl)
    (case uTSHAPES1 => rfl)
    (case nTSHAPES2 => k_is)
    (case tTSHAPES2 => k_is)
    (case sTSHAPES2 => exact Nat.le_of_ble_eq_true rfl)
    (case uTSHAPES2 => rfl)
    (case nTSHAPES3 => k_is)
    (case tTSHAPES3 => k_is)
    (case sTSHAPES3 => exact Nat.le_of_ble_eq_true rfl)
    (case uTSHAPES3 => rfl)
    (case nTSHAPES4 => k_is)
    (case tTSHAPES4 => k_is)
    (case sTSHAPES4 => exact Nat.le_of_ble_eq_true rfl)
    (case uTSHAPES4 => rfl)
    (case nTSHAPES5 => k_is)
    (case tTSHAPES5 => k_is)
    (case sTSHAPES5 => exact Nat.le_of_ble_eq_true rfl)
    (case uTSHAPES5 => rfl)
    (case nTSHAPES6 => k_is)
    (case tTSHAPES6 => k_is)
    (case sTSHAPES6 => exact Nat.le_of_ble_eq_true rfl)
    (case uTSHAPES6 => rfl)
    (case nTSHAPES7 => k_is)
    (case tTSHAPES7 => k_is)
    (case sTSHAPES7 => exact Nat.le_of_ble_eq_true rfl)
    (case uTSHAPES7 => rfl)
    (case nTSHAPES8 => k_is)
    (case tTSHAPES8 => k_is)
    (case sTSHAPES8 => exact Nat.le_of_ble_eq_true rfl)
    (case uTSHAPES8 => rfl)
    (case nTSHAPES9 => k_is)
    (case tTSHAPES9 => k_is)
    (case sTSHAPES9 => exact Nat.le_of_ble_eq_true rfl)
    (case uTSHAPES9 => rfl)
    (case ccPlotError => k_is)
    (case xgPlotError => k_is)
    (case xkPlotError => k_is)
    (case xsPlotError => k_is)
    (case xdPlotError => k_is)
    (case xaPlotError => k_is)
    (case xmPlotError => k_is)
    (case xtPlotError => k_is)
    (case xiPlotError => k_is)
    (case xvPlotError => k_is)
    (case ccBadPlots => k_is)
    (case xgBadPlots => k_is)
    (case xkBadPlots => k_is)
    (case xsBadPlots => k_is)
    (case xdBadPlots => k_is)
    (case xaBadPlots => k_is)
    (case xmBadPlots => k_is)
    (case xtBadPlots => k_is)
    (case xiBadPlots => k_is)
    (case xvBadPlots => k_is)
    (case ccBadRows => k_is)
    (case xgBadRows => k_is)
    (case xkBadRows => k_is)
    (case xsBadRows => k_is)
    (case xdBadRows => k_is)
    (case xaBadRows => k_is)
    (case xmBadRows => k_is)
    (case xtBadRows => k_is)
    (case xiBadRows => k_is)
    (case xvBadRows => k_is)
    (case xn => k_is)
    (case xtk => k_is)
    (case s_pe => k_is)
    (case s_re => k_is)
    (case s_rp => k_is)
    (case z_super => k_is)
    (case zx_ValueError => k_is)
    (case tpSuper => kernel_rfl)
    (case opq => k_is)
    (case aiBadPlots => k_is)
    (case liBadPlots => k_is)
    (case tiBadPlots => k_is)
    (case lcBadPlots => k_is)
    (case vmBadPlots => kernel_rfl)
    (case saBadPlots => k_is)
    (case kpBadPlots => k_is)
    (case cdBadPlots => k_is)
    (case ldBadPlots => k_is)
    (case vdBadPlots => rfl)
    (case edBadPlots => kernel_rfl)
    (case lqBadPlots => k_is)
    (case moBadPlots => k_is)
    (case suBadPlots => ks_is)
    (case noBadPlots => k_is)
    (case aiBadRows => k_is)
    (case liBadRows => k_is)
    (case tiBadRows => k_is)
    (case lcBadRows => k_is)
    (case vmBadRows => kernel_rfl)
    (case saBadRows => k_is)
    (case kpBadRows => k_is)
    (case cdBadRows => k_is)
    (case ldBadRows => k_is)
    (case vdBadRows => rfl)
    (case edBadRows => kernel_rfl)
    (case lqBadRows => k_is)
    (case moBadRows => k_is)
    (case suBadRows => ks_is)
    (case noBadRows => k_is)
    (case nhop => k_is)
