import PyProof.Rows.All
import Wide.All
import OpenK.AllK
import Wide.FinOn
import HandS.ForMost
import HandS.Deep
import HandS.IsInst
import HandS.Style
import HandS.TupAny
import HandS.Zip
import HandS.Flow
import HandS.Conv
import HandS.SortInts
import HandS.DictComp
import HandS.More
import HandS.HeadHook3
import PySem.Challenge.RW_plotfree_k06_facts_at_first
set_option Elab.async false
set_option linter.all false
set_option maxRecDepth 100000
/-! Values as data: what a reading gives, as a plain function of the data that the names hold. -/
namespace PL
open PySem L2

/-! ### heaps -/
def Ex (H L : Hp) : Prop := ∀ p u, H p = some u → L p = some u
theorem Ex.refl (H : Hp) : Ex H H := fun _ _ k => k
theorem Ex.trans {A B C : Hp} (h : Ex A B) (k : Ex B C) : Ex A C := fun p u e => k p u (h p u e)
theorem Ex.new {H : Hp} {p : Addr} {o : HO} (z : H p = none) : Ex H (upd H p o) := fun q u e => by
  rw [upd_ne (ne_of_none e z)]
  exact e
theorem Ex.free {H H' : Hp} {p : Addr} (e : Ex H H') (h : H' p = none) : H p = none := by
  cases h1 : H p with
  | none => rfl
  | some o =>
    rw [e p o h1] at h
    cases h
theorem ex_rd {A B : Hp} {p : Addr} {u : HO} (k : Ex A B) (h : Rd A p u) : Rd B p u := h.elim (fun z => .inl (k _ _ z)) fun ⟨o, z⟩ => .inr ⟨o, k _ _ z⟩
theorem ex_l {K : PySem.W.Frag} {A B : Hp} {p : Addr} {xs : List V} (k : Ex A B) (h : SqL K A p xs) : SqL K B p xs := h.elim (fun z => .inl (ex_rd k z)) .inr
theorem ex_t {K : PySem.W.Frag} {A B : Hp} {p : Addr} {xs : List V} (k : Ex A B) (h : SqT K A p xs) : SqT K B p xs := h.elim (fun z => .inl (ex_rd k z)) .inr
abbrev Hid := Addr → Bool
/-- the heap without what is hidden -/
def vis (O : Hid) (H : Hp) : Hp := fun a => if O a = true then none else H a
theorem vis_le {O : Hid} {H : Hp} : Ex (vis O H) H := fun a o h => by
  unfold vis at h
  split at h
  · cases h
  · exact h
theorem vis_mono {O : Hid} {H H' : Hp} (e : Ex H H') : Ex (vis O H) (vis O H') := fun a o h => by
  unfold vis at h ⊢
  split at h
  · cases h
  · rename_i q
    rw [if_neg q]
    exact e a o h
theorem vis_at {O : Hid} {H : Hp} {a : Addr} {o : HO} (n : O a = false) (h : H a = some o) : vis O H a = some o := by
  unfold vis
  rw [if_neg (by rw [n]; decide)]
  exact h
/-- one more is hidden -/
def hid (O : Hid) (p : Addr) : Hid := fun a => O a || decide (a = p)
theorem hid_le {O : Hid} {p : Addr} {H : Hp} : Ex (vis (hid O p) H) (vis O H) := fun a o h => by
  unfold vis hid at *
  by_cases q : O a = true
  · rw [q] at h
    simp at h
  · rw [if_neg q]
    have q2 : O a = false := by simpa using q
    rw [q2] at h
    by_cases e : a = p
    · simp [e] at h
    · simpa [e] using h
theorem vis_hid {O : Hid} {p : Addr} {H H' : Hp} (hp : H p = none) (e : Ex H H') : Ex (vis O H) (vis (hid O p) H') := fun a o h => by
  have h1 := vis_le a o h
  have ne : a ≠ p := ne_of_none h1 hp
  unfold vis hid at *
  by_cases q : O a = true
  · rw [if_pos q] at h
    cases h
  · have q2 : O a = false := by simpa using q
    rw [q2]
    simpa [ne] using e a o h1
theorem vis_upd {O : Hid} {p : Addr} {H : Hp} {o : HO} (hp : O p = true) : vis O (upd H p o) = vis O H := by
  funext a
  unfold vis
  by_cases q : O a = true
  · rw [if_pos q, if_pos q]
  · rw [if_neg q, if_neg q, upd_ne]
    intro e
    rw [e] at q
    exact q hp
theorem upd_mono {H H' : Hp} {p : Addr} {o : HO} (e : Ex H H') : Ex (upd H p o) (upd H' p o) := fun a u h => by
  by_cases q : a = p
  · rw [q, upd_same] at h
    rw [q, upd_same]
    exact h
  · rw [upd_ne q] at h
    rw [upd_ne q]
    exact e a u h

/-! ### values and data -/
/-- a dict of texts, as data -/
def kvP (ks : List Str) (ds : List PyData) : List (PyData × PyData) := (ks.zip ds).map fun q => (.str q.1, q.2)
def kvV (ks : List Str) (vs : List V) : List (Key × V) := (ks.zip vs).map fun q => (Sum.inr q.1, q.2)
mutual
inductive Rp (K : PySem.W.Frag) (H : Hp) : V → PyData → Prop
  | non : Rp K H .non .none
  | bl (b : Bool) : Rp K H (.bl b) (.bool b)
  | int (i : Int) : Rp K H (.int i) (.int i)
  | str (x : Str) : Rp K H (.str x) (.str x)
  | lst {a : Addr} {xs : List V} {ds : List PyData} : H a = some (.lst xs) → RpAll K H xs ds → Rp K H (.ref a) (.list ds)
  | tup {a : Addr} {xs : List V} {ds : List PyData} : SqT K H a xs → RpAll K H xs ds → Rp K H (.ref a) (.tuple ds)
  | dic {a : Addr} {ks : List Str} {xs : List V} {ds : List PyData} : H a = some (.dK (kvV ks xs)) → ks.length = xs.length → RpAll K H xs ds → Rp K H (.ref a) (.dict (kvP ks ds))
  | scr {a : Addr} {ns : List Int} : SqL K H a (ns.map V.int) → Rp K H (.ref a) (.dict [(.none, .list (ns.map PyData.int))])
inductive RpAll (K : PySem.W.Frag) (H : Hp) : List V → List PyData → Prop
  | nil : RpAll K H [] []
  | cons {v : V} {vs : List V} {d : PyData} {ds : List PyData} : Rp K H v d → RpAll K H vs ds → RpAll K H (v :: vs) (d :: ds)
end
section
variable {K : PySem.W.Frag} {H H' : Hp}
mutual
theorem Rp.mono (e : Ex H H') : ∀ {v : V} {d : PyData}, Rp K H v d → Rp K H' v d
  | _, _, .non => .non
  | _, _, .bl b => .bl b
  | _, _, .int i => .int i
  | _, _, .str x => .str x
  | _, _, .lst h a => .lst (e _ _ h) (RpAll.mono e a)
  | _, _, .tup h a => .tup (ex_t e h) (RpAll.mono e a)
  | _, _, .dic h l a => .dic (e _ _ h) l (RpAll.mono e a)
  | _, _, .scr h => .scr (ex_l e h)
theorem RpAll.mono (e : Ex H H') : ∀ {vs : List V} {ds : List PyData}, RpAll K H vs ds → RpAll K H' vs ds
  | _, _, .nil => .nil
  | _, _, .cons h t => .cons (Rp.mono e h) (RpAll.mono e t)
end
theorem canLayAll_cons {d : PyData} {ds : List PyData} : PyData.canLayAll0 (d :: ds) = (PyData.canLay0 d && PyData.canLayAll0 ds) := rfl
mutual
theorem Rp.dp : ∀ {v : V} {d : PyData}, Rp K H v d → d.canLay0 = true → Dp K H v d
  | _, _, .non, _ => .non
  | _, _, .bl b, _ => .bl b
  | _, _, .int i, _ => .int i
  | _, _, .str x, _ => .str x
  | _, _, .lst h a, c => .lst (SqL.of h) (RpAll.dp a c)
  | _, _, .tup h a, c => .tup h (RpAll.dp a c)
  | _, _, .scr h, c => by cases c
theorem RpAll.dp : ∀ {vs : List V} {ds : List PyData}, RpAll K H vs ds → PyData.canLayAll0 ds = true → DpAll K H vs ds
  | _, _, .nil, _ => .nil
  | _, _, .cons h t, c => by
    rw [canLayAll_cons, Bool.and_eq_true] at c
    exact .cons (Rp.dp h c.1) (RpAll.dp t c.2)
end
theorem RpAll.length : ∀ {vs : List V} {ds : List PyData}, RpAll K H vs ds → vs.length = ds.length
  | _, _, .nil => rfl
  | _, _, .cons _ t => congrArg Nat.succ (RpAll.length t)
theorem RpAll.get : ∀ {vs : List V} {ds : List PyData} {i : Nat} {d : PyData}, RpAll K H vs ds → ds[i]? = some d → ∃ v, vs[i]? = some v ∧ Rp K H v d
  | _, _, _, _, .nil, e => by simp at e
  | _, _, 0, _, .cons h _, e => by
    simp at e
    subst e
    exact ⟨_, rfl, h⟩
  | _, _, i + 1, _, .cons _ t, e => RpAll.get (i := i) t (by simpa using e)
theorem RpAll.get' : ∀ {vs : List V} {ds : List PyData} {i : Nat} {v : V}, RpAll K H vs ds → vs[i]? = some v → ∃ d, ds[i]? = some d ∧ Rp K H v d
  | _, _, _, _, .nil, e => by simp at e
  | _, _, 0, _, .cons h _, e => by
    simp at e
    subst e
    exact ⟨_, rfl, h⟩
  | _, _, i + 1, _, .cons _ t, e => RpAll.get' (i := i) t (by simpa using e)
theorem RpAll.append : ∀ {vs ws : List V} {ds es : List PyData}, RpAll K H vs ds → RpAll K H ws es → RpAll K H (vs ++ ws) (ds ++ es)
  | _, _, _, _, .nil, t => t
  | _, _, _, _, .cons h t, u => .cons h (RpAll.append t u)
theorem RpAll.take : ∀ {vs : List V} {ds : List PyData} (n : Nat), RpAll K H vs ds → RpAll K H (vs.take n) (ds.take n)
  | _, _, 0, _ => .nil
  | _, _, _ + 1, .nil => .nil
  | _, _, n + 1, .cons h t => .cons h (RpAll.take n t)
theorem RpAll.drop : ∀ {vs : List V} {ds : List PyData} (n : Nat), RpAll K H vs ds → RpAll K H (vs.drop n) (ds.drop n)
  | _, _, 0, r => r
  | _, _, _ + 1, .nil => .nil
  | _, _, n + 1, .cons _ t => RpAll.drop n t
theorem RpAll.reverse : ∀ {vs : List V} {ds : List PyData}, RpAll K H vs ds → RpAll K H vs.reverse ds.reverse
  | _, _, .nil => .nil
  | _, _, .cons h t => by
    rw [List.reverse_cons, List.reverse_cons]
    exact (RpAll.reverse t).append (.cons h .nil)
theorem RpAll.ints : ∀ (ns : List Int), RpAll K H (ns.map V.int) (ns.map PyData.int)
  | [] => .nil
  | n :: ns => .cons (.int n) (RpAll.ints ns)
theorem RpAll.strs : ∀ (ns : List Str), RpAll K H (ns.map V.str) (ns.map PyData.str)
  | [] => .nil
  | n :: ns => .cons (.str n) (RpAll.strs ns)
def cutD (xs : List PyData) (lo hi : Option Int) : List PyData := (xs.drop (HT.sIx xs.length 0 lo)).take (HT.sIx xs.length xs.length hi - HT.sIx xs.length 0 lo)
theorem RpAll.cut {vs : List V} {ds : List PyData} (lo hi : Option Int) (h : RpAll K H vs ds) : RpAll K H (cutV vs lo hi) (cutD ds lo hi) := by
  unfold cutV cutD
  rw [h.length]
  exact (h.drop _).take _
theorem RpAll.at_ {vs : List V} {ds : List PyData} {i : Int} {d : PyData} (h : RpAll K H vs ds) (e : atI ds i = some d) : ∃ v, atI vs i = some v ∧ Rp K H v d := by
  unfold atI at *
  rw [h.length]
  cases q : ixN ds.length i with
  | none =>
    rw [q] at e
    cases e
  | some j =>
    rw [q] at e
    exact h.get e

/-! ### an operand: what stands outside of the hidden, or a hidden list whose items do -/
/-- lists and dicts shown again -/
def unl (O : Hid) (H : Hp) : Hid := fun a => O a && !(match H a with | some (.lst _) => true | some (.dK _) => true | _ => false)
theorem unl_le {O : Hid} {H : Hp} : Ex (vis O H) (vis (unl O H) H) := fun b o hb => by
  have h1 := vis_le b o hb
  refine vis_at ?_ h1
  cases z : O b with
  | false => unfold unl; rw [z]; rfl
  | true =>
    unfold vis at hb
    rw [if_pos z] at hb
    cases hb
theorem unl_ex {O : Hid} {H H' : Hp} (e : Ex H H') : Ex (vis (unl O H) H) (vis (unl O H') H') := fun b o hb => by
  have h1 := vis_le b o hb
  have hn : unl O H b = false := by
    cases z : unl O H b with
    | false => rfl
    | true =>
      unfold vis at hb
      rw [if_pos z] at hb
      cases hb
  refine vis_at ?_ (e b o h1)
  unfold unl at hn ⊢
  rw [e b o h1]
  rw [h1] at hn
  exact hn
/-- an operand: seen, or a hidden list, or a hidden dict with all that it holds -/
def Opd (K : PySem.W.Frag) (O : Hid) (H : Hp) (v : V) (d : PyData) : Prop :=
  Rp K (vis O H) v d ∨ (∃ a vs ds, v = .ref a ∧ H a = some (.lst vs) ∧ RpAll K (vis O H) vs ds ∧ d = .list ds) ∨ ∃ kvs, d = .dict kvs ∧ Rp K (vis (unl O H) H) v d
variable {O : Hid} {v : V} {d : PyData}
theorem Opd.mono (e : Ex H H') (h : Opd K O H v d) : Opd K O H' v d := by
  rcases h with h | ⟨a, vs, ds, rfl, h, r, rfl⟩ | ⟨kvs, hd, h⟩
  · exact .inl (h.mono (vis_mono e))
  · exact .inr (.inl ⟨a, vs, ds, rfl, e _ _ h, r.mono (vis_mono e), rfl⟩)
  · exact .inr (.inr ⟨kvs, hd, h.mono (unl_ex e)⟩)
theorem Opd.rp (h : Opd K O H v d) : Rp K H v d := by
  rcases h with h | ⟨a, vs, ds, rfl, h, r, rfl⟩ | ⟨kvs, hd, h⟩
  · exact h.mono vis_le
  · exact .lst h (r.mono vis_le)
  · exact h.mono vis_le
theorem Opd.int {i : Int} (h : Opd K O H v (.int i)) : v = .int i := by
  cases h.rp
  rfl
theorem Opd.bl {b : Bool} (h : Opd K O H v (.bool b)) : v = .bl b := by
  cases h.rp
  rfl
theorem Opd.str {z : Str} (h : Opd K O H v (.str z)) : v = .str z := by
  cases h.rp
  rfl
theorem Opd.lst {ds : List PyData} (h : Opd K O H v (.list ds)) : ∃ a vs, v = .ref a ∧ H a = some (.lst vs) ∧ RpAll K (vis O H) vs ds := by
  rcases h with h | ⟨a, vs, es, rfl, h, r, q⟩ | ⟨kvs, hd, h⟩
  · cases h with
    | lst h r => exact ⟨_, _, rfl, vis_le _ _ h, r⟩
  · cases q
    exact ⟨a, vs, rfl, h, r⟩
  · cases hd
theorem Opd.tup {ds : List PyData} (h : Opd K O H v (.tuple ds)) : ∃ a vs, v = .ref a ∧ SqT K H a vs ∧ RpAll K (vis O H) vs ds := by
  rcases h with h | ⟨a, vs, es, rfl, h, r, q⟩ | ⟨kvs, hd, h⟩
  · cases h with
    | tup h r => exact ⟨_, _, rfl, ex_t vis_le h, r⟩
  · cases q
  · cases hd
theorem kvP_ne {ks : List Str} {ds : List PyData} {d : PyData} {r : List (PyData × PyData)} (h : kvP ks ds = (.none, d) :: r) : False := by
  cases ks with
  | nil => cases h
  | cons k ks =>
    cases ds with
    | nil => cases h
    | cons e ds =>
      injection h with h1 _
      injection h1 with h1 _
      cases h1
/-- the script -/
def scrD (ns : List PyData) : PyData := .dict [(.none, .list ns)]
theorem Opd.scr {ds : List PyData} (o : Opd K O H v (.dict [(.none, .list ds)])) : ∃ (a : Addr) (ns : List Int), v = .ref a ∧ SqL K H a (ns.map V.int) ∧ ds = ns.map PyData.int := by
  have h := o.rp
  clear o
  generalize hd : (PyData.dict [(.none, .list ds)]) = d at h
  cases h with
  | @scr a ns k =>
    injection hd with hd
    injection hd with hd _
    injection hd with _ hd
    injection hd with hd
    exact ⟨a, ns, rfl, k, hd⟩
  | dic h l r =>
    injection hd with hd
    exact (kvP_ne hd.symm).elim
  | _ => cases hd
end

end PL
/-! The objects that a frame may hold hidden, by their plain states. -/
namespace PL
open PySem L2
/-- a Store's state: the chains of its plots, what is open and its number, how many were opened, what was given back and told, which value each name holds, the values (plot, opening, number) -/
structure SM where
  chains : List (Str × List Str)
  opens : List (Str × Int)
  opened : Int
  given : List Int
  told : List Int
  held : List (Str × Nat)
  vals : List (Str × Int × Int)
/-- the law's own state -/
structure LS where
  opn : List (Str × Int)
  held : List (Str × Nat)
  worth : List (Int × Int)
  told : List Int
  given : List Int
  many : Int
  /-- where it lies, if that is known -/
  here : Option Addr
inductive ObS where
  | st (C CV : Addr) (S : SM)
  | ls (S : LS)
  | dk (kvs : List (Key × V))
  | ins (C : Addr) (fs : List (Str × PyData))
def kS (x : Str) : Key := Sum.inr x
def stF (at_ ag ac ao ah : Addr) (n : Int) : List (Str × V) := [("told", .ref at_), ("opened", .int n), ("given", .ref ag), ("_chains", .ref ac), ("_openings", .ref ao), ("_held", .ref ah)]
def vaF (v : Str × Int × Int) : List (Str × V) := [("plot", .str v.1), ("opening", .int v.2.1), ("number", .int v.2.2)]
/-- list by list: at the i-th address the i-th list of texts -/
inductive ListsAt (H : Hp) : List Addr → List (List Str) → Prop
  | nil : ListsAt H [] []
  | cons {a as xs xss} : H a = some (.lst (xs.map V.str)) → ListsAt H as xss → ListsAt H (a :: as) (xs :: xss)
inductive ValsAt (H : Hp) (CV : Addr) : List (Addr × Addr) → List (Str × Int × Int) → Prop
  | nil : ValsAt H CV [] []
  | cons {a as v vs} : H a.1 = some (.ins CV a.2 (vaF v)) → H a.2 = some (.own a.1) → ValsAt H CV as vs → ValsAt H CV (a :: as) (v :: vs)
inductive PairsAt (H : Hp) : List Addr → List (Int × Int) → Prop
  | nil : PairsAt H [] []
  | cons {a as v vs} : H a = some (.lst [.int v.1, .int v.2]) → PairsAt H as vs → PairsAt H (a :: as) (v :: vs)
def zipK (ks : List Str) (as : List Addr) : List (Key × V) := (ks.zip as).map fun p => (kS p.1, V.ref p.2)
structure StAt (H : Hp) (C CV p dx at_ ag ac ao ah : Addr) (cas : List Addr) (vas : List (Addr × Addr)) (S : SM) : Prop where
  hp : H p = some (.ins C dx (stF at_ ag ac ao ah S.opened))
  hdx : H dx = some (.own p)
  ht : H at_ = some (.lst (S.told.map V.int))
  hg : H ag = some (.lst (S.given.map V.int))
  hc : H ac = some (.dK (zipK (S.chains.map (·.1)) cas))
  hcs : ListsAt H cas (S.chains.map (·.2))
  ho : H ao = some (.dK (S.opens.map fun q => (kS q.1, V.int q.2)))
  hh : H ah = some (.dK (S.held.map fun q => (kS q.1, V.ref ((vas.map (·.1)).getD q.2 0))))
  hv : ValsAt H CV vas S.vals
  hr : ∀ q ∈ S.held, q.2 < S.vals.length
def stFp (p dx at_ ag ac ao ah : Addr) (cas : List Addr) (vas : List (Addr × Addr)) : List Addr := p :: dx :: at_ :: ag :: ac :: ao :: ah :: (cas ++ (vas.map (·.1) ++ vas.map (·.2)))
structure LsAt (K : PySem.W.Frag) (H B : Hp) (p a1 a2 a3 a4 a5 : Addr) (was : List Addr) (os : List V) (S : LS) : Prop where
  hp : H p = some (.dK [(kS "open", .ref a1), (kS "held", .ref a2), (kS "worth", .ref a3), (kS "told", .ref a4), (kS "given", .ref a5), (kS "many", .int S.many)])
  h1 : H a1 = some (.lst os)
  hos : RpAll K B os (S.opn.map fun q => .tuple [.str q.1, .int q.2])
  h2 : H a2 = some (.dK (S.held.map fun q => (kS q.1, V.int (q.2 : Int))))
  h3 : H a3 = some (.lst (was.map V.ref))
  hw : PairsAt H was S.worth
  h4 : H a4 = some (.lst (S.told.map V.int))
  h5 : H a5 = some (.lst (S.given.map V.int))
  ha : ∀ q, S.here = some q → p = q
def lsFp (p a1 a2 a3 a4 a5 : Addr) (was : List Addr) : List Addr := p :: a1 :: a2 :: a3 :: a4 :: a5 :: was
/-- the object at v, its cells fp in H, what it shares in B -/
def Ob0 (K : PySem.W.Frag) (v : V) (fp : List Addr) (H B : Hp) : ObS → Prop
  | .st C CV S => ∃ p dx at_ ag ac ao ah cas vas, v = .ref p ∧ fp = stFp p dx at_ ag ac ao ah cas vas ∧ StAt H C CV p dx at_ ag ac ao ah cas vas S
  | .ls S => ∃ p a1 a2 a3 a4 a5 was os, v = .ref p ∧ fp = lsFp p a1 a2 a3 a4 a5 was ∧ LsAt K H B p a1 a2 a3 a4 a5 was os S
  | .dk kvs => ∃ p, v = .ref p ∧ fp = [p] ∧ H p = some (.dK kvs)
  | .ins C fs => ∃ p dx vs, v = .ref p ∧ fp = [p, dx] ∧ H p = some (.ins C dx ((fs.map (·.1)).zip vs)) ∧ H dx = some (.own p) ∧ vs.length = fs.length ∧ RpAll K B vs (fs.map (·.2))
theorem Ob0.mono {K : PySem.W.Frag} {v : V} {fp : List Addr} {H B B' : Hp} {s : ObS} (e : Ex B B') (h : Ob0 K v fp H B s) : Ob0 K v fp H B' s := by
  cases s with
  | st C CV S => exact h
  | ls S =>
    obtain ⟨p, a1, a2, a3, a4, a5, was, os, h1, h2, h3⟩ := h
    exact ⟨p, a1, a2, a3, a4, a5, was, os, h1, h2, ⟨h3.hp, h3.h1, h3.hos.mono e, h3.h2, h3.h3, h3.hw, h3.h4, h3.h5, h3.ha⟩⟩
  | dk kvs => exact h
  | ins C fs =>
    obtain ⟨p, dx, vs, h1, h2, h3, h4, h5, h6⟩ := h
    exact ⟨p, dx, vs, h1, h2, h3, h4, h5, h6.mono e⟩
/-- H at fp alone -/
def rst (fp : List Addr) (H : Hp) : Hp := fun a => if a ∈ fp then H a else none
def ObR (K : PySem.W.Frag) (v : V) (fp : List Addr) (H B : Hp) (s : ObS) : Prop := fp.Nodup ∧ (∀ a ∈ fp, H a ≠ none) ∧ Ob0 K v fp (rst fp H) B s
theorem rst_some {fp : List Addr} {H : Hp} {a : Addr} {o : HO} (h : rst fp H a = some o) : a ∈ fp ∧ H a = some o := by
  unfold rst at h
  split at h
  · exact ⟨by assumption, h⟩
  · cases h
theorem rst_at {fp : List Addr} {H : Hp} {a : Addr} {o : HO} (m : a ∈ fp) (h : H a = some o) : rst fp H a = some o := by
  unfold rst
  rw [if_pos m]
  exact h
theorem ObR.loc {K : PySem.W.Frag} {v : V} {fp : List Addr} {H H' B : Hp} {s : ObS} (h : ObR K v fp H B s) (e : ∀ a ∈ fp, H' a = H a) : ObR K v fp H' B s := by
  obtain ⟨nd, h1, h2⟩ := h
  refine ⟨nd, fun a m => by rw [e a m]; exact h1 a m, ?_⟩
  have : rst fp H' = rst fp H := by
    funext a
    unfold rst
    by_cases m : a ∈ fp
    · rw [if_pos m, if_pos m, e a m]
    · rw [if_neg m, if_neg m]
  rw [this]
  exact h2
theorem ObR.ex {K : PySem.W.Frag} {v : V} {fp : List Addr} {H H' B B' : Hp} {s : ObS} (h : ObR K v fp H B s) (e : Ex H H') (eb : Ex B B') : ObR K v fp H' B' s := by
  have h' := h.loc (H' := H') fun a m => by
    cases q : H a with
    | none => exact absurd q (h.2.1 a m)
    | some o => exact e a o q
  exact ⟨h'.1, h'.2.1, h'.2.2.mono eb⟩
end PL
namespace PL
open PySem L2

/-! ### what the names hold -/
inductive Sl where
  | un | sh (d : PyData) | own (ds : List PyData) | any | ob (s : ObS)
abbrev Env := List Sl
/-- fp: the hidden cells that the slot is alone in holding -/
def SlOk (K : PySem.W.Frag) (base : Hp) (O : Hid) (H : Hp) (x : Option V) (fp : List Addr) : Sl → Prop
  | .un => x = none ∧ fp = []
  | .sh d => (∃ v, x = some v ∧ Rp K (vis O H) v d) ∧ fp = []
  | .own ds => ∃ a vs, x = some (.ref a) ∧ fp = [a] ∧ O a = true ∧ base a = none ∧ H a = some (.lst vs) ∧ RpAll K (vis O H) vs ds
  | .any => fp = []
  | .ob s => ∃ v, x = some v ∧ (∀ a ∈ fp, O a = true ∧ base a = none) ∧ ObR K v fp H (vis O H) s
structure Sat0 (K : PySem.W.Frag) (base : Hp) (O0 O : Hid) (σ : L2.St) (H : Hp) (env : Env) (fps : Nat → List Addr) : Prop where
  ex : Ex base H
  new : ∀ a, O a = true → O0 a = true ∨ base a = none
  b0 : ∀ a, O0 a = true → base a ≠ none
  sub : ∀ a, O0 a = true → O a = true
  all : ∀ a, O a = true → H a ≠ none
  len : σ.length = env.length
  sl : ∀ (i : Nat) (x : Option V) (s : Sl), σ[i]? = some x → env[i]? = some s → SlOk K base O H x (fps i) s
  out : ∀ i, env.length ≤ i → fps i = []
  sep : ∀ (i j : Nat) (a : Addr), i ≠ j → a ∈ fps i → a ∈ fps j → False
def Sat (K : PySem.W.Frag) (base : Hp) (O0 O : Hid) (σ : L2.St) (H : Hp) (env : Env) : Prop := ∃ fps, Sat0 K base O0 O σ H env fps
section
variable {K : PySem.W.Frag} {base : Hp} {O0 O : Hid} {σ : L2.St} {H H' : Hp} {env : Env}
theorem Sat.ex (S : Sat K base O0 O σ H env) : Ex base H := S.choose_spec.ex
theorem Sat.new (S : Sat K base O0 O σ H env) : ∀ a, O a = true → O0 a = true ∨ base a = none := S.choose_spec.new
theorem Sat.b0 (S : Sat K base O0 O σ H env) : ∀ a, O0 a = true → base a ≠ none := S.choose_spec.b0
theorem Sat.sub (S : Sat K base O0 O σ H env) : ∀ a, O0 a = true → O a = true := S.choose_spec.sub
theorem Sat.all (S : Sat K base O0 O σ H env) : ∀ a, O a = true → H a ≠ none := S.choose_spec.all
theorem Sat.len (S : Sat K base O0 O σ H env) : σ.length = env.length := S.choose_spec.len
/-- a slot's word where the hidden cells stand and the rest grows -/
theorem SlOk.step {O' : Hid} {x : Option V} {fp : List Addr} {s : Sl} (h : SlOk K base O H x fp s) (ev : Ex (vis O H) (vis O' H')) (ef : ∀ a ∈ fp, H' a = H a) (eo : ∀ a ∈ fp, O' a = true) : SlOk K base O' H' x fp s := by
  cases s with
  | un => exact h
  | any => exact h
  | sh d =>
    obtain ⟨⟨v, q, r⟩, e⟩ := h
    exact ⟨⟨v, q, r.mono ev⟩, e⟩
  | own ds =>
    obtain ⟨a, vs, q, rfl, o, b, h, r⟩ := h
    exact ⟨a, vs, q, rfl, eo a (List.mem_singleton.mpr rfl), b, by rw [ef a (List.mem_singleton.mpr rfl)]; exact h, r.mono ev⟩
  | ob s =>
    obtain ⟨v, q, o, r⟩ := h
    have r2 := r.loc ef
    exact ⟨v, q, fun a m => ⟨eo a m, (o a m).2⟩, r2.1, r2.2.1, r2.2.2.mono ev⟩
theorem SlOk.cells {x : Option V} {fp : List Addr} {s : Sl} (h : SlOk K base O H x fp s) : ∀ a ∈ fp, O a = true ∧ base a = none := by
  intro a m
  cases s with
  | un => rw [h.2] at m; cases m
  | any => rw [show fp = [] from h] at m; cases m
  | sh d => rw [h.2] at m; cases m
  | own ds =>
    obtain ⟨b, vs, q, rfl, o, bn, h, r⟩ := h
    rw [List.mem_singleton.mp m]
    exact ⟨o, bn⟩
  | ob s =>
    obtain ⟨v, q, o, r⟩ := h
    exact o a m
theorem Sat0.cells {fps : Nat → List Addr} (S : Sat0 K base O0 O σ H env fps) (i : Nat) : ∀ a ∈ fps i, O a = true ∧ base a = none := by
  intro a m
  by_cases hi : i < env.length
  · have hs : i < σ.length := by rw [S.len]; exact hi
    exact (S.sl i _ _ (List.getElem?_eq_getElem hs) (List.getElem?_eq_getElem hi)).cells a m
  · rw [S.out i (by omega)] at m
    cases m
theorem keeps {a : Addr} (al : H a ≠ none) (e : Ex H H') : H' a = H a := by
  cases q : H a with
  | none => exact absurd q al
  | some o => exact e a o q
theorem Sat.mono (e : Ex H H') (S : Sat K base O0 O σ H env) : Sat K base O0 O σ H' env := by
  obtain ⟨fps, S⟩ := S
  refine ⟨fps, S.ex.trans e, S.new, S.b0, S.sub, fun a h q => S.all a h (e.free q), S.len, fun i x s h1 h2 => (S.sl i x s h1 h2).step (vis_mono e) (fun a m => keeps (S.all a (S.cells i a m).1) e) fun a m => (S.cells i a m).1, S.out, S.sep⟩
theorem Sat.at_ (S : Sat K base O0 O σ H env) {i : Nat} {s : Sl} (h : env[i]? = some s) : ∃ x fp, σ[i]? = some x ∧ SlOk K base O H x fp s := by
  obtain ⟨fps, S⟩ := S
  have hi : i < σ.length := by rw [S.len]; exact (List.getElem?_eq_some_iff.mp h).1
  exact ⟨σ[i], fps i, List.getElem?_eq_getElem hi, S.sl i _ s (List.getElem?_eq_getElem hi) h⟩
def fpSet (fps : Nat → List Addr) (i : Nat) (fp : List Addr) : Nat → List Addr := fun j => if j = i then fp else fps j
/-- slot i gets another thing x; what is hidden, the heap may change, but not at other slots' cells -/
theorem Sat0.put {O' : Hid} {fps : Nat → List Addr} {i : Nat} {x : Option V} {fp : List Addr} {s : Sl} (S : Sat0 K base O0 O σ H env fps)
    (ex : Ex base H') (ev : Ex (vis O H) (vis O' H')) (new : ∀ a, O' a = true → O0 a = true ∨ base a = none) (sub : ∀ a, O0 a = true → O' a = true) (all : ∀ a, O' a = true → H' a ≠ none)
    (keep : ∀ j, j ≠ i → ∀ a ∈ fps j, H' a = H a ∧ O' a = true ∧ a ∉ fp) (hs : SlOk K base O' H' x fp s) (hi : i < env.length) : Sat0 K base O0 O' (σ.set i x) H' (env.set i s) (fpSet fps i fp) := by
  refine ⟨ex, new, S.b0, sub, all, by rw [List.length_set, List.length_set, S.len], fun j y z h1 h2 => ?_, fun j hj => ?_, fun j k a n h1 h2 => ?_⟩
  · unfold fpSet
    by_cases e : j = i
    · subst e
      rw [if_pos rfl]
      rw [List.getElem?_set_self (by rw [S.len]; exact hi)] at h1
      rw [List.getElem?_set_self hi] at h2
      cases h1
      cases h2
      exact hs
    · rw [if_neg e]
      rw [List.getElem?_set_ne (fun q => e q.symm)] at h1 h2
      exact (S.sl j y z h1 h2).step ev (fun a m => (keep j e a m).1) fun a m => (keep j e a m).2.1
  · rw [List.length_set] at hj
    unfold fpSet
    rw [if_neg (by omega)]
    exact S.out j hj
  · unfold fpSet at h1 h2
    by_cases e : j = i
    · subst e
      rw [if_pos rfl] at h1
      rw [if_neg (fun q => n q.symm)] at h2
      exact (keep k (fun q => n q.symm) a h2).2.2 h1
    · rw [if_neg e] at h1
      by_cases e2 : k = i
      · rw [if_pos e2] at h2
        exact (keep j e a h1).2.2 h2
      · rw [if_neg e2] at h2
        exact S.sep j k a n h1 h2
theorem set_out {α : Type} {l : List α} {i : Nat} {x : α} (h : ¬ i < l.length) : l.set i x = l := List.set_eq_of_length_le (by omega)
/-- one slot is set to a thing that is not hidden -/
theorem Sat.set {i : Nat} {v : V} {d : PyData} (S : Sat K base O0 O σ H env) (r : Rp K (vis O H) v d) : Sat K base O0 O (σ.set i (some v)) H (env.set i (.sh d)) := by
  obtain ⟨fps, S⟩ := S
  by_cases hi : i < env.length
  · exact ⟨_, S.put (O' := O) (H' := H) (fp := []) S.ex (Ex.refl _) S.new S.sub S.all (fun j n a m => ⟨rfl, (S.cells j a m).1, fun q => nomatch q⟩) ⟨⟨v, rfl, r⟩, rfl⟩ hi⟩
  · rw [set_out hi, set_out (by rw [S.len]; exact hi)]
    exact ⟨fps, S⟩
theorem Sat.un (S : Sat K base O0 O σ H env) (i : Nat) : Sat K base O0 O (σ.set i none) H (env.set i .un) := by
  obtain ⟨fps, S⟩ := S
  by_cases hi : i < env.length
  · exact ⟨_, S.put (O' := O) (H' := H) (fp := []) S.ex (Ex.refl _) S.new S.sub S.all (fun j n a m => ⟨rfl, (S.cells j a m).1, fun q => nomatch q⟩) ⟨rfl, rfl⟩ hi⟩
  · rw [set_out hi, set_out (by rw [S.len]; exact hi)]
    exact ⟨fps, S⟩
/-- a new list becomes hidden, slot i holds it -/
theorem Sat.setOwn {i : Nat} {p : Addr} {vs : List V} {ds : List PyData} (S : Sat K base O0 O σ H env) (hp : H p = none) (e : Ex H H') (h : H' p = some (.lst vs)) (r : RpAll K (vis (hid O p) H') vs ds) :
    Sat K base O0 (hid O p) (σ.set i (some (.ref p))) H' (env.set i (.own ds)) := by
  obtain ⟨fps, S⟩ := S
  have bp : base p = none := S.ex.free hp
  have hO : ∀ a, O a = true → hid O p a = true := fun a q => by unfold hid; rw [q]; rfl
  have hpp : hid O p p = true := by unfold hid; simp
  have np : ∀ j, ∀ a ∈ fps j, a ≠ p := fun j a m q => S.all a (S.cells j a m).1 (q ▸ hp)
  have new : ∀ a, hid O p a = true → O0 a = true ∨ base a = none := fun a q => by
    unfold hid at q
    by_cases qa : O a = true
    · exact S.new a qa
    · have : a = p := by simpa [qa] using q
      rw [this]
      exact .inr bp
  have all : ∀ a, hid O p a = true → H' a ≠ none := fun a q z => by
    unfold hid at q
    by_cases qa : O a = true
    · exact S.all a qa (e.free z)
    · have : a = p := by simpa [qa] using q
      rw [this, h] at z
      cases z
  by_cases hi : i < env.length
  · refine ⟨_, S.put (O' := hid O p) (H' := H') (fp := [p]) (S.ex.trans e) (vis_hid hp e) new (fun a q => hO a (S.sub a q)) all (fun j n a m => ⟨keeps (S.all a (S.cells j a m).1) e, hO a (S.cells j a m).1, fun q => np j a m (List.mem_singleton.mp q)⟩) ⟨p, vs, rfl, rfl, hpp, bp, h, r⟩ hi⟩
  · rw [set_out hi, set_out (by rw [S.len]; exact hi)]
    exact ⟨fps, S.ex.trans e, new, S.b0, fun a q => hO a (S.sub a q), all, S.len, fun j x s h1 h2 => (S.sl j x s h1 h2).step (vis_hid hp e) (fun a m => keeps (S.all a (S.cells j a m).1) e) fun a m => hO a (S.cells j a m).1, S.out, S.sep⟩
/-- the hidden list of slot i is changed -/
theorem Sat.mut {i : Nat} {a : Addr} {vs : List V} {ds es : List PyData} (S : Sat K base O0 O σ H env) (hi : env[i]? = some (.own ds)) (ha : σ[i]? = some (some (.ref a))) (r : RpAll K (vis O H) vs es) :
    vis O (upd H a (.lst vs)) = vis O H ∧ Sat K base O0 O σ (upd H a (.lst vs)) (env.set i (.own es)) := by
  obtain ⟨fps, S⟩ := S
  obtain ⟨b, ws, e1, ef, oa, ba, h, _⟩ := S.sl i _ _ ha hi
  cases e1
  have hv : vis O (upd H a (.lst vs)) = vis O H := vis_upd oa
  have hil : i < env.length := (List.getElem?_eq_some_iff.mp hi).1
  have na : ∀ j, j ≠ i → ∀ b ∈ fps j, b ≠ a := fun j n b m q => S.sep j i b n m (by rw [ef, q]; exact List.mem_singleton.mpr rfl)
  have es_ : σ.set i (some (.ref a)) = σ := by
    apply List.ext_getElem?
    intro k
    by_cases q : i = k
    · subst q
      rw [List.getElem?_set_self (by rw [S.len]; exact hil), ha]
    · rw [List.getElem?_set_ne q]
  refine ⟨hv, fpSet fps i [a], ?_⟩
  have g := S.put (O' := O) (H' := upd H a (.lst vs)) (fp := [a]) (i := i) (x := some (.ref a)) (s := .own es) (fun b o q => by rw [upd_ne (ne_of_none q ba)]; exact S.ex b o q) (by rw [hv]; exact Ex.refl _) S.new S.sub
    (fun b q z => by
      by_cases e : b = a
      · rw [e, upd_same] at z
        cases z
      · rw [upd_ne e] at z
        exact S.all b q z)
    (fun j n b m => ⟨upd_ne (na j n b m), (S.cells j b m).1, fun q => na j n b m (List.mem_singleton.mp q)⟩) ⟨a, vs, rfl, rfl, oa, ba, upd_same, by rw [hv]; exact r⟩ hil
  rw [es_] at g
  exact g
/-- a new thing at D, hidden, no slot's -/
theorem Sat.hide {D : Addr} (S : Sat K base O0 O σ H env) (hD : H D = none) (e : Ex H H') (h : H' D ≠ none) : Sat K base O0 (hid O D) σ H' env := by
  obtain ⟨fps, S⟩ := S
  have bp : base D = none := S.ex.free hD
  have hO : ∀ a, O a = true → hid O D a = true := fun a q => by unfold hid; rw [q]; rfl
  refine ⟨fps, S.ex.trans e, fun a q => ?_, S.b0, fun a q => hO a (S.sub a q), fun a q z => ?_, S.len, fun j x s h1 h2 => (S.sl j x s h1 h2).step (vis_hid hD e) (fun a m => keeps (S.all a (S.cells j a m).1) e) fun a m => hO a (S.cells j a m).1, S.out, S.sep⟩
  · unfold hid at q
    by_cases qa : O a = true
    · exact S.new a qa
    · have : a = D := by simpa [qa] using q
      rw [this]
      exact .inr bp
  · unfold hid at q
    by_cases qa : O a = true
    · exact S.all a qa (e.free z)
    · have : a = D := by simpa [qa] using q
      rw [this] at z
      exact h z
/-- a list that was to change stays as it is from here on -/
theorem Sat.let_ {i : Nat} {ds : List PyData} (S : Sat K base O0 O σ H env) (hi : env[i]? = some (.own ds)) : ∃ O', Ex (vis O H) (vis O' H) ∧ Sat K base O0 O' σ H (env.set i (.sh (.list ds))) := by
  obtain ⟨fps, S⟩ := S
  have hil : i < env.length := (List.getElem?_eq_some_iff.mp hi).1
  have hs : i < σ.length := by rw [S.len]; exact hil
  obtain ⟨a, vs, hx, ef, oa, ba, h1, r⟩ := S.sl i _ _ (List.getElem?_eq_getElem hs) hi
  have n0 : O0 a = false := by
    cases q : O0 a with
    | false => rfl
    | true => exact absurd ba (S.b0 a q)
  let O' : Hid := fun b => O b && !decide (b = a)
  have hO : ∀ b, O' b = true → O b = true := fun b q => by
    have this : (O b && !decide (b = a)) = true := q
    exact (Bool.and_eq_true_iff.mp this).1
  have hv : Ex (vis O H) (vis O' H) := fun b o q => by
    unfold vis at *
    by_cases z : O b = true
    · rw [if_pos z] at q
      cases q
    · rw [if_neg z] at q
      rw [if_neg (fun y => z (hO b y))]
      exact q
  have ha : O' a = false := by simp [O']
  have na : ∀ j, j ≠ i → ∀ b ∈ fps j, b ≠ a := fun j n b m q => S.sep j i b n m (by rw [ef, q]; exact List.mem_singleton.mpr rfl)
  have es_ : σ.set i (some (.ref a)) = σ := by
    apply List.ext_getElem?
    intro k
    by_cases q : i = k
    · subst q
      rw [List.getElem?_set_self hs, List.getElem?_eq_getElem hs, hx]
    · rw [List.getElem?_set_ne q]
  have g := S.put (O' := O') (H' := H) (fp := []) (i := i) (x := some (.ref a)) (s := .sh (.list ds)) S.ex hv (fun b q => S.new b (hO b q)) (fun b q => by
      have ne : b ≠ a := fun z => by
        rw [z, n0] at q
        cases q
      simp [O', S.sub b q, ne]) (fun b q => S.all b (hO b q))
    (fun j n b m => ⟨rfl, by simp [O', (S.cells j b m).1, na j n b m], fun q => nomatch q⟩) ⟨⟨_, rfl, .lst (vis_at ha h1) (r.mono hv)⟩, rfl⟩ hil
  rw [es_] at g
  exact ⟨O', hv, _, g⟩
end
end PL
namespace PL
open PySem L2

/-! ### what a reading gives -/
def DenP (K : PySem.W.Frag) (te : TE) (f : Env → Option PyData) : Prop := ∀ base O0 O σ H env d, Sat K base O0 O σ H env → f env = some d → ∀ Q : VK, (∀ v H', Ex H H' → Rp K (vis O H') v d → Q v H') → te σ H Q
def Den (K : PySem.W.Frag) (te : TE) (f : Env → Option PyData) : Prop := ∀ base O0 O σ H env d, Sat K base O0 O σ H env → f env = some d → ∀ Q : VK, (∀ v H', Ex H H' → Opd K O H' v d → Q v H') → te σ H Q
def DenN (K : PySem.W.Frag) (te : TE) (f : Env → Option (List PyData)) : Prop := ∀ base O0 O σ H env ds, Sat K base O0 O σ H env → f env = some ds → ∀ Q : VK, (∀ p vs H', H p = none → Ex H H' → H' p = some (.lst vs) → RpAll K (vis (hid O p) H') vs ds → Q (.ref p) H') → te σ H Q
def DenT (K : PySem.W.Frag) (tt : TT) (f : Env → Option Bool) : Prop := ∀ base O0 O σ H env b, Sat K base O0 O σ H env → f env = some b → ∀ Q : Bool → Hp → Prop, (∀ H', Ex H H' → Q b H') → tt σ H Q
inductive OpdAll (K : PySem.W.Frag) (O : Hid) (H : Hp) : List V → List PyData → Prop
  | nil : OpdAll K O H [] []
  | cons {v vs d ds} : Opd K O H v d → OpdAll K O H vs ds → OpdAll K O H (v :: vs) (d :: ds)
def DenA (K : PySem.W.Frag) (ta : TA) (f : Env → Option (List PyData)) : Prop := ∀ base O0 O σ H env ds, Sat K base O0 O σ H env → f env = some ds → ∀ Q : List V → Hp → Prop, (∀ vs H', Ex H H' → OpdAll K O H' vs ds → Q vs H') → ta σ H Q
def DenAP (K : PySem.W.Frag) (ta : TA) (f : Env → Option (List PyData)) : Prop := ∀ base O0 O σ H env ds, Sat K base O0 O σ H env → f env = some ds → ∀ Q : List V → Hp → Prop, (∀ vs H', Ex H H' → RpAll K (vis O H') vs ds → Q vs H') → ta σ H Q
def DenO (K : PySem.W.Frag) (to : TO) (f : Env → Option (Option Int)) : Prop := ∀ base O0 O σ H env o, Sat K base O0 O σ H env → f env = some o → ∀ Q : Option Int → Hp → Prop, (∀ H', Ex H H' → Q o H') → to σ H Q
theorem OpdAll.mono {K : PySem.W.Frag} {O : Hid} {H H' : Hp} (e : Ex H H') : ∀ {vs ds}, OpdAll K O H vs ds → OpdAll K O H' vs ds
  | _, _, .nil => .nil
  | _, _, .cons h t => .cons (h.mono e) (t.mono e)

/-! ### plain functions of the data of the names -/
def eVar (i : Nat) : Env → Option PyData := fun env => match env[i]? with
  | some (.sh d) => some d
  | _ => none
def eVarO (i : Nat) : Env → Option PyData := fun env => match env[i]? with
  | some (.sh d) => some d
  | some (.own ds) => some (.list ds)
  | _ => none
def eC (d : PyData) : Env → Option PyData := fun _ => some d
def e1 (g : PyData → Option PyData) (fa : Env → Option PyData) : Env → Option PyData := fun env => (fa env).bind g
def e2 (g : PyData → PyData → Option PyData) (fa fb : Env → Option PyData) : Env → Option PyData := fun env => (fa env).bind fun x => (fb env).bind fun y => g x y
def eA (g : List PyData → Option PyData) (fa : Env → Option (List PyData)) : Env → Option PyData := fun env => (fa env).bind g
def eL (f : Env → Option (List PyData)) : Env → Option PyData := fun env => (f env).map PyData.list
def aNil : Env → Option (List PyData) := fun _ => some []
def aCons (f : Env → Option PyData) (r : Env → Option (List PyData)) : Env → Option (List PyData) := fun env => (f env).bind fun d => (r env).bind fun ds => some (d :: ds)
def short (ds : List PyData) : Option (List PyData) := if ds.length ≤ 100000 then some ds else none
def eTup (f : Env → Option (List PyData)) : Env → Option PyData := fun env => (f env).bind fun ds => (short ds).map PyData.tuple
def nLst (f : Env → Option (List PyData)) : Env → Option (List PyData) := fun env => (f env).bind short
def eIf (t : Env → Option Bool) (a b : Env → Option PyData) : Env → Option PyData := fun env => (t env).bind fun k => if k then a env else b env
def asB : PyData → Option Bool
  | .bool b => some b
  | _ => none
def tE (f : Env → Option PyData) : Env → Option Bool := fun env => (f env).bind asB
def tA (a b : Env → Option Bool) : Env → Option Bool := fun env => (a env).bind fun k => if k then b env else some false
def tO (a b : Env → Option Bool) : Env → Option Bool := fun env => (a env).bind fun k => if k then some true else b env
def tN (a : Env → Option Bool) : Env → Option Bool := fun env => (a env).map (!·)
def eAndB (a b : Env → Option PyData) : Env → Option PyData := fun env => (tE a env).bind fun k => if k then b env else some (.bool false)
def eOrB (a b : Env → Option PyData) : Env → Option PyData := fun env => (tE a env).bind fun k => if k then some (.bool true) else b env
def eNotB (a : Env → Option PyData) : Env → Option PyData := fun env => (tN (tE a) env).map PyData.bool
def oNone : Env → Option (Option Int) := fun _ => some none
def asI : PyData → Option Int
  | .int i => some i
  | _ => none
def oSome (f : Env → Option PyData) : Env → Option (Option Int) := fun env => (f env).bind fun d => (asI d).map some

/-! ### operators on data -/
def gI (f : Int → Int → Int) : PyData → PyData → Option PyData
  | .int i, .int j => some (.int (f i j))
  | _, _ => none
def gB (f : Int → Int → Bool) : PyData → PyData → Option PyData
  | .int i, .int j => some (.bool (f i j))
  | _, _ => none
def gIC (c : Int → Int → Bool) (f : Int → Int → Int) : PyData → PyData → Option PyData
  | .int i, .int j => if c i j then some (.int (f i j)) else none
  | _, _ => none
def rAddU : R2 := fun x y H Q => rI0 (fun i j => .int (i + j)) x y H Q ∨ ∃ i j, x = .str i ∧ y = .str j ∧ i.length + j.length ≤ sizeLine ∧ Q (.str (i ++ j)) H
def gAdd : PyData → PyData → Option PyData
  | .int i, .int j => some (.int (i + j))
  | .str i, .str j => if i.length + j.length ≤ 100000 then some (.str (i ++ j)) else none
  | _, _ => none
def cDiv (_ j : Int) : Bool := decide (0 < j ∧ j < 1073741824)
def cMod (_ j : Int) : Bool := decide (0 < j)
def cMul (i j : Int) : Bool := decide ((-18446744073709551616 < i ∧ i < 18446744073709551616) ∨ (-18446744073709551616 < j ∧ j < 18446744073709551616))
def gEq : PyData → PyData → Option PyData := fun x y => if SeqAt.shaped x && SeqAt.shaped y then some (.bool (PyData.eqv x y)) else none
def gNe : PyData → PyData → Option PyData := fun x y => if SeqAt.shaped x && SeqAt.shaped y then some (.bool (!PyData.eqv x y)) else none
/-- x in a list; in a text, x one sign -/
def gInL (neg : Bool) : PyData → PyData → Option PyData := fun x y => match y with
  | .list ds => if SeqAt.shaped x && SeqAt.shaped (.list ds) then some (.bool (if neg then !ds.any fun z => PyData.eqv z x else ds.any fun z => PyData.eqv z x)) else none
  | _ => none
def gInS (neg : Bool) : PyData → PyData → Option PyData
  | .str c, .str z => match c.cps.toList with
    | [k] => some (.bool (if neg then !decide (k ∈ z.cps.toList) else decide (k ∈ z.cps.toList)))
    | _ => none
  | _, _ => none
def flatD : PyData → Option V
  | .none => some .non
  | .bool b => some (.bl b)
  | .int i => some (.int i)
  | .str s => some (.str s)
  | _ => none
def flatDs : List PyData → Option (List V)
  | [] => some []
  | d :: ds => (flatD d).bind fun v => (flatDs ds).map (v :: ·)
/-- x in a tuple of flat things -/
def gInT (neg : Bool) : PyData → PyData → Option PyData := fun x y => match y with
  | .tuple ds => (flatD x).bind fun v => (flatDs ds).bind fun vs => some (.bool (if neg then !inV v vs else inV v vs))
  | _ => none
def gIsN (neg : Bool) : PyData → Option PyData := fun x => some (.bool (match x with | .none => !neg | _ => neg))
def gIx : PyData → PyData → Option PyData
  | .list ds, .int k => atI ds k
  | .tuple ds, .int k => atI ds k
  | .str z, .int k => if z.length ≤ 100000 then (atI z.cps.toList k).map fun c => .str ⟨#[c]⟩ else none
  | .dict [(.none, .list ds)], .int k => atI ds k
  | _, _ => none
def dLen : PyData → Option PyData
  | .list ds => some (.int ds.length)
  | .tuple ds => some (.int ds.length)
  | .str z => if z.length ≤ 100000 then some (.int z.length) else none
  | .dict [(.none, .list ds)] => some (.int ds.length)
  | _ => none
def gLen : List PyData → Option PyData
  | [d] => dLen d
  | _ => none
def tyD : PyData → Option String
  | .none => some "NoneType"
  | .bool _ => some "bool"
  | .int _ => some "int"
  | .str _ => some "str"
  | .list _ => some "list"
  | .tuple _ => some "tuple"
  | _ => none
def gIsi (n : String) : PyData → Option PyData := fun d => (tyD d).bind fun s => (kitB s n).map PyData.bool
def gAbs : List PyData → Option PyData
  | [.int i] => some (.int (if i < 0 then -i else i))
  | _ => none
def gMax : List PyData → Option PyData
  | [.int i, .int j] => some (.int (if j > i then j else i))
  | _ => none
def gInt : List PyData → Option PyData
  | [.int i] => some (.int i)
  | [.bool k] => some (.int (if k then 1 else 0))
  | _ => none
def gNeg : PyData → Option PyData
  | .int i => some (.int (-i))
  | _ => none
def asStrs : List PyData → Option (List Str)
  | [] => some []
  | .str z :: ds => (asStrs ds).map (z :: ·)
  | _ :: _ => none
def gJoin : PyData → PyData → Option PyData
  | .str a, .list ds => (asStrs ds).bind fun ys => if (ys.map (·.length)).sum + ys.length * a.length ≤ 100000 then some (.str (Txt.join a ys)) else none
  | _, _ => none
def asL : PyData → Option (List PyData)
  | .list ds => some ds
  | _ => none
def asLS : PyData → Option (List PyData)
  | .list ds => some ds
  | .dict [(.none, .list ds)] => some ds
  | _ => none
def asLT : PyData → Option (List PyData)
  | .list ds => some ds
  | .tuple ds => some ds
  | .dict [(.none, .list ds)] => some ds
  | _ => none
def n1 (g : PyData → Option (List PyData)) (f : Env → Option PyData) : Env → Option (List PyData) := fun env => (f env).bind g
def nCat (a b : Env → Option PyData) : Env → Option (List PyData) := fun env => (a env).bind fun x => (b env).bind fun y => (asL x).bind fun xs => (asL y).bind fun ys => if xs.length + ys.length ≤ 100000 then some (xs ++ ys) else none
def nSl (f : Env → Option PyData) (lo hi : Env → Option (Option Int)) : Env → Option (List PyData) := fun env => (f env).bind fun x => (lo env).bind fun l => (hi env).bind fun h => (asLS x).map fun ds => cutD ds l h
def nRev (f : Env → Option PyData) : Env → Option (List PyData) := fun env => (f env).bind fun x => (asLS x).map List.reverse
def nRep (f g : Env → Option PyData) : Env → Option (List PyData) := fun env => (f env).bind fun x => (g env).bind fun y => (asL x).bind fun ds => (asI y).bind fun k => if 0 ≤ k ∧ k ≤ 100000 ∧ ds.length * k.toNat ≤ 100000 then some (List.replicate k.toNat ds).flatten else none
def eSlS (f : Env → Option PyData) (lo hi : Env → Option (Option Int)) : Env → Option PyData := fun env => (f env).bind fun x => (lo env).bind fun l => (hi env).bind fun h => match x with
  | .str z => if z.length ≤ 100000 then some (.str (cutS z l h)) else none
  | _ => none
def eSlT (f : Env → Option PyData) (lo hi : Env → Option (Option Int)) : Env → Option PyData := fun env => (f env).bind fun x => (lo env).bind fun l => (hi env).bind fun h => match x with
  | .tuple ds => some (.tuple (cutD ds l h))
  | _ => none

section
variable {K : PySem.W.Frag} {te ta tb tx : TE} {tt tu : TT} {f fa fb fx : Env → Option PyData} {t u : Env → Option Bool} {r : R2}
theorem big (n : Nat) (h : n ≤ 100000) : n ≤ sizeLine := by rw [sizeLine_eq]; omega
theorem DenP.o (h : DenP K te f) : Den K te f := fun base O0 O σ H env d S e Q q => h base O0 O σ H env d S e Q fun v H' x r => q v H' x (.inl r)
theorem hid_free {base H : Hp} {O0 O : Hid} {σ : L2.St} {env : Env} {p : Addr} (S : Sat K base O0 O σ H env) (hp : H p = none) : O p = false := by
  cases q : O p with
  | false => rfl
  | true => exact absurd hp (S.all p q)
theorem DenN.p {f : Env → Option (List PyData)} (h : DenN K te f) : DenP K te (eL f) := by
  intro base O0 O σ H env d S e Q q
  unfold eL at e
  cases hf : f env with
  | none => simp [hf] at e
  | some ds =>
    simp [hf] at e
    subst e
    refine h base O0 O σ H env ds S hf Q fun p vs H' hp x hv r => q _ _ x ?_
    have op := hid_free S hp
    exact .lst (vis_at op hv) (r.mono hid_le)
theorem den_var {i : Nat} : Den K (tVar i) (eVarO i) := by
  intro base O0 O σ H env d S e Q q
  unfold eVarO at e
  cases h : env[i]? with
  | none => simp [h] at e
  | some s =>
    obtain ⟨x, fp, hx, k⟩ := S.at_ h
    rw [h] at e
    cases s with
    | un => cases e
    | any => cases e
    | ob s => cases e
    | sh d' =>
      cases e
      obtain ⟨⟨v, rfl, r⟩, _⟩ := k
      exact ⟨v, hx, q v H (Ex.refl H) (.inl r)⟩
    | own ds =>
      cases e
      obtain ⟨a, vs, rfl, _, _, _, h1, r⟩ := k
      exact ⟨_, hx, q _ H (Ex.refl H) (.inr (.inl ⟨a, vs, ds, rfl, h1, r, rfl⟩))⟩
theorem denP_var {i : Nat} : DenP K (tVar i) (eVar i) := by
  intro base O0 O σ H env d S e Q q
  unfold eVar at e
  cases h : env[i]? with
  | none => simp [h] at e
  | some s =>
    obtain ⟨x, fp, hx, k⟩ := S.at_ h
    rw [h] at e
    cases s with
    | un => cases e
    | any => cases e
    | own ds => cases e
    | ob s => cases e
    | sh d' =>
      cases e
      obtain ⟨⟨v, rfl, r⟩, _⟩ := k
      exact ⟨v, hx, q v H (Ex.refl H) r⟩
theorem den_int {i : Int} : DenP K (tC (.int i)) (eC (.int i)) := fun _ _ _ _ H _ _ _ e _ q => by cases e; exact q _ H (Ex.refl H) (.int i)
theorem den_bl {b : Bool} : DenP K (tC (.bl b)) (eC (.bool b)) := fun _ _ _ _ H _ _ _ e _ q => by cases e; exact q _ H (Ex.refl H) (.bl b)
theorem den_non : DenP K (tC .non) (eC .none) := fun _ _ _ _ H _ _ _ e _ q => by cases e; exact q _ H (Ex.refl H) .non
theorem den_str {z : Str} : DenP K (tC (.str z)) (eC (.str z)) := fun _ _ _ _ H _ _ _ e _ q => by cases e; exact q _ H (Ex.refl H) (.str z)

def Ok2 (K : PySem.W.Frag) (r : R2) (g : PyData → PyData → Option PyData) : Prop := ∀ (O : Hid) (H : Hp) x y d e z, (∀ a, O a = true → H a ≠ none) → Opd K O H x d → Opd K O H y e → g d e = some z → ∀ Q : VK, (∀ v H', Ex H H' → Rp K (vis O H') v z → Q v H') → r x y H Q
theorem den_op {g : PyData → PyData → Option PyData} (hr : Ok2 K r g) (ha : Den K ta fa) (hb : Den K tb fb) : DenP K (tOp r ta tb) (e2 g fa fb) := by
  intro base O0 O σ H env d S e Q q
  unfold e2 at e
  cases h1 : fa env with
  | none => simp [h1] at e
  | some x =>
    cases h2 : fb env with
    | none => simp [h1, h2] at e
    | some y =>
      simp [h1, h2] at e
      refine ha base O0 O σ H env x S h1 _ fun v H1 e1 o1 => ?_
      refine hb base O0 O σ H1 env y (S.mono e1) h2 _ fun w H2 e2 o2 => ?_
      exact hr O H2 v w x y d ((S.mono e1).mono e2).all (o1.mono e2) o2 e Q fun v H' e3 r => q v H' ((e1.trans e2).trans e3) r
theorem ok_I {f : Int → Int → Int} : Ok2 K (rI0 fun i j => .int (f i j)) (gI f) := by
  intro O H x y d e z al o1 o2 h Q q
  unfold gI at h
  split at h
  · cases h
    rw [o1.int, o2.int]
    exact ⟨_, _, rfl, rfl, q _ H (Ex.refl H) (.int _)⟩
  · cases h
theorem ok_B {f : Int → Int → Bool} : Ok2 K (rI0 fun i j => .bl (f i j)) (gB f) := by
  intro O H x y d e z al o1 o2 h Q q
  unfold gB at h
  split at h
  · cases h
    rw [o1.int, o2.int]
    exact ⟨_, _, rfl, rfl, q _ H (Ex.refl H) (.bl _)⟩
  · cases h
theorem ok_IC {C : Int → Int → Prop} {c : Int → Int → Bool} {f : Int → Int → Int} (hc : ∀ i j, c i j = true → C i j) : Ok2 K (rI C fun i j => .int (f i j)) (gIC c f) := by
  intro O H x y d e z al o1 o2 h Q q
  unfold gIC at h
  split at h
  · split at h
    · cases h
      rename_i k
      rw [o1.int, o2.int]
      exact ⟨_, _, rfl, rfl, hc _ _ k, q _ H (Ex.refl H) (.int _)⟩
    · cases h
  · cases h
theorem c_div : ∀ i j, cDiv i j = true → CDiv i j := fun i j h => by unfold cDiv at h; have := of_decide_eq_true h; exact this
theorem c_mod : ∀ i j : Int, cMod i j = true → 0 < j := fun i j h => by unfold cMod at h; exact of_decide_eq_true h
theorem c_mul : ∀ i j, cMul i j = true → CMul i j := fun i j h => by unfold cMul at h; have := of_decide_eq_true h; unfold CMul; omega
theorem ok_add : Ok2 K rAddU gAdd := by
  intro O H x y d e z al o1 o2 h Q q
  unfold gAdd at h
  split at h
  · cases h
    rw [o1.int, o2.int]
    exact .inl ⟨_, _, rfl, rfl, q _ H (Ex.refl H) (.int _)⟩
  · split at h
    · cases h
      rename_i k
      rw [o1.str, o2.str]
      exact .inr ⟨_, _, rfl, rfl, big _ k, q _ H (Ex.refl H) (.str _)⟩
    · cases h
  · cases h
theorem ok_eq : Ok2 K (rEqD K) gEq := by
  intro O H x y d e z al o1 o2 h Q q
  unfold gEq at h
  split at h
  · rename_i k
    rw [Bool.and_eq_true] at k
    cases h
    exact ⟨d, e, o1.rp.dp (SeqAt.canLay_of_shaped k.1), o2.rp.dp (SeqAt.canLay_of_shaped k.2), k.1, k.2, q _ H (Ex.refl H) (.bl _)⟩
  · cases h
theorem ok_ne : Ok2 K (rNeD K) gNe := by
  intro O H x y d e z al o1 o2 h Q q
  unfold gNe at h
  split at h
  · rename_i k
    rw [Bool.and_eq_true] at k
    cases h
    exact ⟨d, e, o1.rp.dp (SeqAt.canLay_of_shaped k.1), o2.rp.dp (SeqAt.canLay_of_shaped k.2), k.1, k.2, q _ H (Ex.refl H) (.bl _)⟩
  · cases h
theorem ok_inL : Ok2 K (rInD K) (gInL false) := by
  intro O H x y d e z al o1 o2 h Q q
  unfold gInL at h
  split at h
  · split at h
    · rename_i k
      rw [Bool.and_eq_true] at k
      cases h
      exact ⟨d, _, o1.rp.dp (SeqAt.canLay_of_shaped k.1), o2.rp.dp (SeqAt.canLay_of_shaped k.2), k.1, k.2, q _ H (Ex.refl H) (.bl _)⟩
    · cases h
  · cases h
theorem ok_niL : Ok2 K (rNotInD K) (gInL true) := by
  intro O H x y d e z al o1 o2 h Q q
  unfold gInL at h
  split at h
  · split at h
    · rename_i k
      rw [Bool.and_eq_true] at k
      cases h
      exact ⟨d, _, o1.rp.dp (SeqAt.canLay_of_shaped k.1), o2.rp.dp (SeqAt.canLay_of_shaped k.2), k.1, k.2, q _ H (Ex.refl H) (.bl _)⟩
    · cases h
  · cases h
theorem flatD_rp {O : Hid} {H : Hp} {x : V} {d : PyData} {v : V} (o : Opd K O H x d) (h : flatD d = some v) : x = v ∧ flatV v = true := by
  have r := o.rp
  cases r <;> cases h <;> exact ⟨rfl, rfl⟩
theorem vis_no {H : Hp} : Ex H (vis (fun _ => false) H) := fun a o h => vis_at rfl h
theorem flatDs_rp {H : Hp} : ∀ {xs : List V} {ds : List PyData} {vs : List V}, RpAll K H xs ds → flatDs ds = some vs → xs = vs ∧ vs.all flatV = true
  | _, _, _, .nil, h => by cases h; exact ⟨rfl, rfl⟩
  | _, _, _, .cons (d := d) (ds := ds) r t, h => by
    unfold flatDs at h
    cases h1 : flatD d with
    | none => rw [h1] at h; cases h
    | some w =>
      cases h2 : flatDs ds with
      | none => rw [h1, h2] at h; cases h
      | some ws =>
        rw [h1, h2] at h
        cases h
        obtain ⟨e1, e2⟩ := flatDs_rp t h2
        have g := flatD_rp (O := fun _ => false) (.inl (r.mono (vis_no (H := _)))) h1
        rw [e1, g.1, List.all_cons, g.2, e2]
        exact ⟨rfl, rfl⟩
theorem ok_inT : Ok2 K (rIn K false) (gInT false) := by
  intro O H x y d e z al o1 o2 h Q q
  unfold gInT at h
  split at h
  · cases h1 : flatD d with
    | none => rw [h1] at h; cases h
    | some v =>
      rename_i ds
      cases h2 : flatDs ds with
      | none => rw [h1, h2] at h; cases h
      | some vs =>
        rw [h1, h2] at h
        cases h
        obtain ⟨a, us, rfl, hs, ra⟩ := o2.tup
        obtain ⟨rfl, fv⟩ := flatD_rp o1 h1
        obtain ⟨rfl, fs⟩ := flatDs_rp ra h2
        exact ⟨a, us, rfl, .inr hs, fv, fs, q _ H (Ex.refl H) (.bl _)⟩
  · cases h
theorem ok_niT : Ok2 K (rIn K true) (gInT true) := by
  intro O H x y d e z al o1 o2 h Q q
  unfold gInT at h
  split at h
  · cases h1 : flatD d with
    | none => rw [h1] at h; cases h
    | some v =>
      rename_i ds
      cases h2 : flatDs ds with
      | none => rw [h1, h2] at h; cases h
      | some vs =>
        rw [h1, h2] at h
        cases h
        obtain ⟨a, us, rfl, hs, ra⟩ := o2.tup
        obtain ⟨rfl, fv⟩ := flatD_rp o1 h1
        obtain ⟨rfl, fs⟩ := flatDs_rp ra h2
        exact ⟨a, us, rfl, .inr hs, fv, fs, q _ H (Ex.refl H) (.bl _)⟩
  · cases h
def rInS1 : R2 := fun x y H Q => ∃ (c : Nat) (z : Str), x = .str ⟨#[c]⟩ ∧ y = .str z ∧ Q (.bl (decide (c ∈ z.cps.toList))) H
def rNiS1 : R2 := fun x y H Q => ∃ (c : Nat) (z : Str), x = .str ⟨#[c]⟩ ∧ y = .str z ∧ Q (.bl (!decide (c ∈ z.cps.toList))) H
theorem one_sign {c : Str} {k : Nat} (h : c.cps.toList = [k]) : c = ⟨#[k]⟩ := by
  cases c with
  | mk a =>
    have : a = #[k] := by
      apply Array.toList_inj.mp
      simpa using h
    rw [this]
theorem ok_inS : Ok2 K rInS1 (gInS false) := by
  intro O H x y d e z al o1 o2 h Q q
  unfold gInS at h
  split at h
  · split at h
    · rename_i k hk
      cases h
      rw [o1.str, o2.str]
      exact ⟨k, _, by rw [one_sign hk], rfl, q _ H (Ex.refl H) (.bl _)⟩
    · cases h
  · cases h
theorem ok_niS : Ok2 K rNiS1 (gInS true) := by
  intro O H x y d e z al o1 o2 h Q q
  unfold gInS at h
  split at h
  · split at h
    · rename_i k hk
      cases h
      rw [o1.str, o2.str]
      exact ⟨k, _, by rw [one_sign hk], rfl, q _ H (Ex.refl H) (.bl _)⟩
    · cases h
  · cases h
theorem ok_ix : Ok2 K (rIx K) gIx := by
  intro O H x y d e z al o1 o2 h Q q
  unfold gIx at h
  split at h
  · obtain ⟨a, vs, rfl, hv, ra⟩ := o1.lst
    obtain ⟨v, hv2, r⟩ := ra.at_ h
    rw [o2.int]
    exact .inl ⟨a, vs, _, v, rfl, rfl, SqL.of hv, hv2, q _ H (Ex.refl H) r⟩
  · obtain ⟨a, vs, rfl, hv, ra⟩ := o1.tup
    obtain ⟨v, hv2, r⟩ := ra.at_ h
    rw [o2.int]
    exact .inr (.inl ⟨a, vs, _, v, rfl, rfl, hv, hv2, q _ H (Ex.refl H) r⟩)
  · split at h
    · rename_i zz k hk
      rw [o1.str, o2.int]
      cases h2 : atI zz.cps.toList k with
      | none => rw [h2] at h; cases h
      | some c =>
        rw [h2] at h
        cases h
        exact .inr (.inr ⟨_, _, c, rfl, rfl, big _ hk, h2, q _ H (Ex.refl H) (.str _)⟩)
    · cases h
  · obtain ⟨a, ns, rfl, hv, rfl⟩ := o1.scr
    obtain ⟨v, hv2, r⟩ := (RpAll.ints (K := K) (H := vis O H) ns).at_ h
    rw [o2.int]
    exact .inl ⟨a, _, _, v, rfl, rfl, hv, hv2, q _ H (Ex.refl H) r⟩
  · cases h
/-! ### one place -/
theorem den_isN (ha : Den K ta fa) : DenP K (tOp (fun x y H Q => y = .non ∧ Q (.bl (decide (x = .non))) H) ta (tC .non)) (e1 (gIsN false) fa) := by
  intro base O0 O σ H env d S e Q q
  unfold e1 at e
  cases h1 : fa env with
  | none => simp [h1] at e
  | some x =>
    simp [h1, gIsN] at e
    subst e
    refine ha base O0 O σ H env x S h1 _ fun v H1 e1 o1 => ⟨rfl, q _ _ e1 ?_⟩
    have r := o1.rp
    cases r <;> exact .bl _
theorem den_notN (ha : Den K ta fa) : DenP K (tOp (fun x y H Q => y = .non ∧ Q (.bl (!decide (x = .non))) H) ta (tC .non)) (e1 (gIsN true) fa) := by
  intro base O0 O σ H env d S e Q q
  unfold e1 at e
  cases h1 : fa env with
  | none => simp [h1] at e
  | some x =>
    simp [h1, gIsN] at e
    subst e
    refine ha base O0 O σ H env x S h1 _ fun v H1 e1 o1 => ⟨rfl, q _ _ e1 ?_⟩
    have r := o1.rp
    cases r <;> exact .bl _
theorem den_neg (ha : Den K ta fa) : DenP K (tUn (rU fun i => .int (-i)) ta) (e1 gNeg fa) := by
  intro base O0 O σ H env d S e Q q
  unfold e1 at e
  cases h1 : fa env with
  | none => simp [h1] at e
  | some x =>
    simp [h1] at e
    refine ha base O0 O σ H env x S h1 _ fun v H1 e1 o1 => ?_
    unfold gNeg at e
    split at e
    · cases e
      rw [o1.int]
      exact ⟨_, rfl, q _ _ e1 (.int _)⟩
    · cases e
/-! ### tests -/
theorem den_val (h : Den K te f) : DenT K (tB te) (tE f) := by
  intro base O0 O σ H env b S e Q q
  unfold tE at e
  cases h1 : f env with
  | none => simp [h1] at e
  | some x =>
    simp [h1] at e
    refine h base O0 O σ H env x S h1 _ fun v H1 e1 o1 => ?_
    unfold asB at e
    split at e
    · cases e
      exact ⟨_, o1.bl, q _ e1⟩
    · cases e
theorem den_test (h : Den K te f) : DenT K (tTest te) (tE f) := by
  intro base O0 O σ H env b S e Q q
  unfold tE at e
  cases h1 : f env with
  | none => simp [h1] at e
  | some x =>
    simp [h1] at e
    refine h base O0 O σ H env x S h1 _ fun v H1 e1 o1 => ?_
    unfold asB at e
    split at e
    · cases e
      exact ⟨_, o1.bl, q _ e1⟩
    · cases e
theorem den_and (h1 : DenT K tt t) (h2 : DenT K tu u) : DenT K (tAnd tt tu) (tA t u) := by
  intro base O0 O σ H env b S e Q q
  unfold tA at e
  cases k1 : t env with
  | none => simp [k1] at e
  | some x =>
    simp [k1] at e
    refine h1 base O0 O σ H env x S k1 _ fun H1 x1 => ?_
    cases x with
    | true =>
      show tu σ H1 Q
      exact h2 base O0 O σ H1 env b (S.mono x1) (by simpa using e) Q fun H2 x2 => q H2 (x1.trans x2)
    | false =>
      show Q false H1
      have : false = b := by simpa using e
      subst this
      exact q H1 x1
theorem den_or (h1 : DenT K tt t) (h2 : DenT K tu u) : DenT K (tOr tt tu) (tO t u) := by
  intro base O0 O σ H env b S e Q q
  unfold tO at e
  cases k1 : t env with
  | none => simp [k1] at e
  | some x =>
    simp [k1] at e
    refine h1 base O0 O σ H env x S k1 _ fun H1 x1 => ?_
    cases x with
    | false =>
      show tu σ H1 Q
      exact h2 base O0 O σ H1 env b (S.mono x1) (by simpa using e) Q fun H2 x2 => q H2 (x1.trans x2)
    | true =>
      show Q true H1
      have : true = b := by simpa using e
      subst this
      exact q H1 x1
theorem den_not (h1 : DenT K tt t) : DenT K (tNot tt) (tN t) := by
  intro base O0 O σ H env b S e Q q
  unfold tN at e
  cases k1 : t env with
  | none => simp [k1] at e
  | some x =>
    rw [k1] at e
    cases e
    exact h1 base O0 O σ H env x S k1 _ fun H1 x1 => q H1 x1
theorem denT_yes : DenT K tYes (fun _ => some true) := fun _ _ _ _ H _ _ _ e _ q => by cases e; exact q H (Ex.refl H)
theorem den_andV (ha : Den K ta fa) (hb : DenP K tb fb) : DenP K (tAndV ta tb) (eAndB fa fb) := by
  intro base O0 O σ H env d S e Q q
  unfold eAndB tE at e
  cases k1 : fa env with
  | none => simp [k1] at e
  | some x =>
    simp [k1] at e
    refine ha base O0 O σ H env x S k1 _ fun v H1 x1 o1 => ?_
    unfold asB at e
    split at e
    · refine ⟨_, o1.bl, ?_⟩
      rename_i c
      cases c with
      | true =>
        show tb σ H1 Q
        exact hb base O0 O σ H1 env d (S.mono x1) (by simpa using e) Q fun v H2 x2 r => q v H2 (x1.trans x2) r
      | false =>
        show Q (.bl false) H1
        have : PyData.bool false = d := by simpa using e
        subst this
        exact q _ H1 x1 (.bl _)
    · simp at e
theorem den_orV (ha : Den K ta fa) (hb : DenP K tb fb) : DenP K (tOrV ta tb) (eOrB fa fb) := by
  intro base O0 O σ H env d S e Q q
  unfold eOrB tE at e
  cases k1 : fa env with
  | none => simp [k1] at e
  | some x =>
    simp [k1] at e
    refine ha base O0 O σ H env x S k1 _ fun v H1 x1 o1 => ?_
    unfold asB at e
    split at e
    · refine ⟨_, o1.bl, ?_⟩
      rename_i c
      cases c with
      | false =>
        show tb σ H1 Q
        exact hb base O0 O σ H1 env d (S.mono x1) (by simpa using e) Q fun v H2 x2 r => q v H2 (x1.trans x2) r
      | true =>
        show Q (.bl true) H1
        have : PyData.bool true = d := by simpa using e
        subst this
        exact q _ H1 x1 (.bl _)
    · simp at e
theorem den_notV (ha : Den K ta fa) : DenP K (tNotV ta) (eNotB fa) := by
  intro base O0 O σ H env d S e Q q
  unfold eNotB tN tE at e
  cases k1 : fa env with
  | none => simp [k1] at e
  | some x =>
    rw [k1] at e
    refine ha base O0 O σ H env x S k1 _ fun v H1 x1 o1 => ?_
    rw [Option.bind_some] at e
    unfold asB at e
    split at e
    · cases e
      exact ⟨_, o1.bl, q _ _ x1 (.bl _)⟩
    · cases e
theorem den_if (ht : DenT K tt t) (ha : DenP K ta fa) (hb : DenP K tb fb) : DenP K (tIf tt ta tb) (eIf t fa fb) := by
  intro base O0 O σ H env d S e Q q
  unfold eIf at e
  cases k1 : t env with
  | none => simp [k1] at e
  | some x =>
    simp [k1] at e
    refine ht base O0 O σ H env x S k1 _ fun H1 x1 => ?_
    cases x with
    | true =>
      show ta σ H1 Q
      exact ha base O0 O σ H1 env d (S.mono x1) (by simpa using e) Q fun v H2 x2 r => q v H2 (x1.trans x2) r
    | false =>
      show tb σ H1 Q
      exact hb base O0 O σ H1 env d (S.mono x1) (by simpa using e) Q fun v H2 x2 r => q v H2 (x1.trans x2) r
/-! ### arguments, displays -/
variable {tr : TA} {fr fs : Env → Option (List PyData)}
theorem den_anil : DenA K tNil aNil := fun _ _ _ _ H _ _ _ e _ q => by cases e; exact q _ H (Ex.refl H) .nil
theorem den_apnil : DenAP K tNil aNil := fun _ _ _ _ H _ _ _ e _ q => by cases e; exact q _ H (Ex.refl H) .nil
theorem den_acons (h : Den K te f) (hr : DenA K tr fr) : DenA K (tCons te tr) (aCons f fr) := by
  intro base O0 O σ H env ds S e Q q
  unfold aCons at e
  cases k1 : f env with
  | none => simp [k1] at e
  | some x =>
    cases k2 : fr env with
    | none => simp [k1, k2] at e
    | some xs =>
      simp [k1, k2] at e
      subst e
      refine h base O0 O σ H env x S k1 _ fun v H1 x1 o1 => ?_
      exact hr base O0 O σ H1 env xs (S.mono x1) k2 _ fun vs H2 x2 r => q _ H2 (x1.trans x2) (.cons (o1.mono x2) r)
theorem den_apcons (h : DenP K te f) (hr : DenAP K tr fr) : DenAP K (tCons te tr) (aCons f fr) := by
  intro base O0 O σ H env ds S e Q q
  unfold aCons at e
  cases k1 : f env with
  | none => simp [k1] at e
  | some x =>
    cases k2 : fr env with
    | none => simp [k1, k2] at e
    | some xs =>
      simp [k1, k2] at e
      subst e
      refine h base O0 O σ H env x S k1 _ fun v H1 x1 o1 => ?_
      exact hr base O0 O σ H1 env xs (S.mono x1) k2 _ fun vs H2 x2 r => q _ H2 (x1.trans x2) (.cons (o1.mono (vis_mono x2)) r)
theorem short_some {ds es : List PyData} (h : short ds = some es) : ds = es ∧ ds.length ≤ 100000 := by
  unfold short at h
  split at h
  · cases h
    exact ⟨rfl, by assumption⟩
  · cases h
theorem den_tup (h : DenAP K tr fr) : DenP K (tTup tr) (eTup fr) := by
  intro base O0 O σ H env d S e Q q
  unfold eTup at e
  cases k1 : fr env with
  | none => simp [k1] at e
  | some xs =>
    simp [k1] at e
    obtain ⟨es, k2, rfl⟩ := e
    obtain ⟨rfl, hz⟩ := short_some k2
    refine h base O0 O σ H env xs S k1 _ fun vs H1 x1 r => ⟨by rw [r.length]; exact big _ hz, fun p hp => ?_⟩
    have op := hid_free (S.mono x1) hp
    refine q _ _ (x1.trans (Ex.new hp)) (.tup (SqT.of (vis_at op upd_same)) (r.mono (vis_mono (Ex.new hp))))
theorem den_lst (h : DenAP K tr fr) : DenN K (tLst tr) (nLst fr) := by
  intro base O0 O σ H env d S e Q q
  unfold nLst at e
  cases k1 : fr env with
  | none => simp [k1] at e
  | some xs =>
    simp [k1] at e
    obtain ⟨rfl, hz⟩ := short_some e
    refine h base O0 O σ H env xs S k1 _ fun vs H1 x1 r => ⟨by rw [r.length]; exact big _ hz, fun p hp => ?_⟩
    exact q p vs _ (x1.free hp) (x1.trans (Ex.new hp)) upd_same (r.mono (vis_hid hp (Ex.new hp)))
/-! ### parts of a slice -/
theorem den_onone : DenO K tNoPart oNone := fun _ _ _ _ H _ _ _ e _ q => by cases e; exact q H (Ex.refl H)
theorem den_osome (h : Den K te f) : DenO K (tPart te) (oSome f) := by
  intro base O0 O σ H env o S e Q q
  unfold oSome at e
  cases k1 : f env with
  | none => simp [k1] at e
  | some x =>
    simp [k1] at e
    refine h base O0 O σ H env x S k1 _ fun v H1 x1 o1 => ?_
    obtain ⟨i, k2, rfl⟩ := e
    unfold asI at k2
    split at k2
    · cases k2
      exact ⟨_, o1.int, q H1 x1⟩
    · cases k2
theorem asLS_opd {O : Hid} {H : Hp} {v : V} {d : PyData} {ds : List PyData} (o : Opd K O H v d) (h : asLS d = some ds) : ∃ a vs, v = .ref a ∧ SqL K H a vs ∧ RpAll K (vis O H) vs ds := by
  unfold asLS at h
  split at h
  · cases h
    obtain ⟨a, vs, e, h1, r⟩ := o.lst
    exact ⟨a, vs, e, SqL.of h1, r⟩
  · cases h
    obtain ⟨a, ns, e, h1, rfl⟩ := o.scr
    exact ⟨a, _, e, h1, RpAll.ints ns⟩
  · cases h
theorem asLT_opd {O : Hid} {H : Hp} {v : V} {d : PyData} {ds : List PyData} (o : Opd K O H v d) (h : asLT d = some ds) : ∃ a vs, v = .ref a ∧ (SqL K H a vs ∨ SqT K H a vs) ∧ RpAll K (vis O H) vs ds := by
  unfold asLT at h
  split at h
  · cases h
    obtain ⟨a, vs, e, h1, r⟩ := o.lst
    exact ⟨a, vs, e, .inl (SqL.of h1), r⟩
  · cases h
    obtain ⟨a, vs, e, h1, r⟩ := o.tup
    exact ⟨a, vs, e, .inr h1, r⟩
  · cases h
    obtain ⟨a, ns, e, h1, rfl⟩ := o.scr
    exact ⟨a, _, e, .inl h1, RpAll.ints ns⟩
  · cases h
theorem asL_opd {O : Hid} {H : Hp} {v : V} {d : PyData} {ds : List PyData} (o : Opd K O H v d) (h : asL d = some ds) : ∃ a vs, v = .ref a ∧ H a = some (.lst vs) ∧ RpAll K (vis O H) vs ds := by
  unfold asL at h
  split at h
  · cases h
    exact o.lst
  · cases h
variable {tl th : TO} {fl fh : Env → Option (Option Int)}
theorem den_slL (h : Den K te f) (hl : DenO K tl fl) (hh : DenO K th fh) : DenN K (tSl (rSlL K) te tl th) (nSl f fl fh) := by
  intro base O0 O σ H env ds S e Q q
  unfold nSl at e
  cases k1 : f env with
  | none => simp [k1] at e
  | some x =>
    cases k2 : fl env with
    | none => simp [k1, k2] at e
    | some l =>
      cases k3 : fh env with
      | none => simp [k1, k2, k3] at e
      | some u =>
        simp [k1, k2, k3] at e
        obtain ⟨es, k4, rfl⟩ := e
        refine h base O0 O σ H env x S k1 _ fun v H1 x1 o1 => ?_
        refine hl base O0 O σ H1 env l (S.mono x1) k2 _ fun H2 x2 => ?_
        refine hh base O0 O σ H2 env u ((S.mono x1).mono x2) k3 _ fun H3 x3 => ?_
        obtain ⟨a, vs, rfl, hs, r⟩ := asLS_opd ((o1.mono x2).mono x3) k4
        refine ⟨a, vs, rfl, hs, fun p hp => ?_⟩
        exact q p _ _ (((x1.trans x2).trans x3).free hp) (((x1.trans x2).trans x3).trans (Ex.new hp)) upd_same ((r.cut l u).mono (vis_hid hp (Ex.new hp)))
theorem den_slS (h : Den K te f) (hl : DenO K tl fl) (hh : DenO K th fh) : DenP K (tSl rSlS te tl th) (eSlS f fl fh) := by
  intro base O0 O σ H env d S e Q q
  unfold eSlS at e
  cases k1 : f env with
  | none => simp [k1] at e
  | some x =>
    cases k2 : fl env with
    | none => simp [k1, k2] at e
    | some l =>
      cases k3 : fh env with
      | none => simp [k1, k2, k3] at e
      | some u =>
        simp only [k1, k2, k3, Option.bind_some] at e
        refine h base O0 O σ H env x S k1 _ fun v H1 x1 o1 => ?_
        refine hl base O0 O σ H1 env l (S.mono x1) k2 _ fun H2 x2 => ?_
        refine hh base O0 O σ H2 env u ((S.mono x1).mono x2) k3 _ fun H3 x3 => ?_
        split at e
        · split at e
          · rename_i hz
            cases e
            exact ⟨_, o1.str, big _ hz, q _ _ ((x1.trans x2).trans x3) (.str _)⟩
          · cases e
        · cases e
theorem den_slT (h : Den K te f) (hl : DenO K tl fl) (hh : DenO K th fh) : DenP K (tSl (rSlA K) te tl th) (eSlT f fl fh) := by
  intro base O0 O σ H env d S e Q q
  unfold eSlT at e
  cases k1 : f env with
  | none => simp [k1] at e
  | some x =>
    cases k2 : fl env with
    | none => simp [k1, k2] at e
    | some l =>
      cases k3 : fh env with
      | none => simp [k1, k2, k3] at e
      | some u =>
        simp only [k1, k2, k3, Option.bind_some] at e
        refine h base O0 O σ H env x S k1 _ fun v H1 x1 o1 => ?_
        refine hl base O0 O σ H1 env l (S.mono x1) k2 _ fun H2 x2 => ?_
        refine hh base O0 O σ H2 env u ((S.mono x1).mono x2) k3 _ fun H3 x3 => ?_
        split at e
        · cases e
          rename_i ds
          have o3 := (o1.mono x2).mono x3
          rcases o3 with o3 | ⟨a, vs, es, _, _, _, z⟩ | ⟨_, z, _⟩
          · cases o3 with
            | @tup a vs _ hs r =>
              refine ⟨a, vs, rfl, ex_t vis_le hs, fun hc => ?_, fun _ p hp => ?_⟩
              · refine q _ _ ((x1.trans x2).trans x3) (.tup hs ?_)
                have e1 : cutD ds l u = ds := by
                  unfold cutD
                  rw [r.length] at hc
                  rw [hc.1, hc.2, List.drop_zero, Nat.sub_zero, List.take_length]
                rw [e1]
                exact r
              · have op := hid_free (((S.mono x1).mono x2).mono x3) hp
                exact q _ _ (((x1.trans x2).trans x3).trans (Ex.new hp)) (.tup (SqT.of (vis_at op upd_same)) ((r.cut l u).mono (vis_mono (Ex.new hp))))
          · cases z
          · cases z
        · cases e
theorem den_rev (h : Den K te f) : DenN K (tRevL K te) (nRev f) := by
  intro base O0 O σ H env ds S e Q q
  unfold nRev at e
  cases k1 : f env with
  | none => simp [k1] at e
  | some x =>
    simp [k1] at e
    obtain ⟨es, k4, rfl⟩ := e
    refine h base O0 O σ H env x S k1 _ fun v H1 x1 o1 => ?_
    obtain ⟨a, vs, rfl, hs, r⟩ := asLS_opd o1 k4
    exact ⟨a, vs, rfl, hs, fun p hp => q p _ _ (x1.free hp) (x1.trans (Ex.new hp)) upd_same (r.reverse.mono (vis_hid hp (Ex.new hp)))⟩
theorem den_cat (ha : Den K ta fa) (hb : Den K tb fb) : DenN K (tOp rCat ta tb) (nCat fa fb) := by
  intro base O0 O σ H env ds S e Q q
  unfold nCat at e
  cases k1 : fa env with
  | none => simp [k1] at e
  | some x =>
    cases k2 : fb env with
    | none => simp [k1, k2] at e
    | some y =>
      simp only [k1, k2, Option.bind_some] at e
      cases k3 : asL x with
      | none => simp [k3] at e
      | some xs =>
        cases k4 : asL y with
        | none => simp [k3, k4] at e
        | some ys =>
          simp only [k3, k4, Option.bind_some] at e
          split at e
          · rename_i hz
            cases e
            refine ha base O0 O σ H env x S k1 _ fun v H1 x1 o1 => ?_
            refine hb base O0 O σ H1 env y (S.mono x1) k2 _ fun w H2 x2 o2 => ?_
            obtain ⟨a, vs, rfl, h1, r1⟩ := asL_opd (o1.mono x2) k3
            obtain ⟨b, ws, rfl, h2, r2⟩ := asL_opd o2 k4
            exact ⟨a, b, vs, ws, rfl, rfl, h1, h2, by rw [r1.length, r2.length]; exact big _ hz, fun p hp => q p _ _ ((x1.trans x2).free hp) ((x1.trans x2).trans (Ex.new hp)) upd_same ((r1.append r2).mono (vis_hid hp (Ex.new hp)))⟩
          · cases e
theorem RpAll.flat {H : Hp} {vs : List V} {ds : List PyData} (r : RpAll K H vs ds) : ∀ n : Nat, RpAll K H (List.replicate n vs).flatten (List.replicate n ds).flatten
  | 0 => .nil
  | n + 1 => by
    rw [List.replicate_succ, List.replicate_succ, List.flatten_cons, List.flatten_cons]
    exact r.append (RpAll.flat r n)
theorem den_rep (ha : Den K ta fa) (hb : Den K tb fb) : DenN K (tOp rRep ta tb) (nRep fa fb) := by
  intro base O0 O σ H env ds S e Q q
  unfold nRep at e
  cases k1 : fa env with
  | none => simp [k1] at e
  | some x =>
    cases k2 : fb env with
    | none => simp [k1, k2] at e
    | some y =>
      simp only [k1, k2, Option.bind_some] at e
      cases k3 : asL x with
      | none => simp [k3] at e
      | some xs =>
        cases k4 : asI y with
        | none => simp [k3, k4] at e
        | some n =>
          simp only [k3, k4, Option.bind_some] at e
          split at e
          · rename_i hz
            cases e
            refine ha base O0 O σ H env x S k1 _ fun v H1 x1 o1 => ?_
            refine hb base O0 O σ H1 env y (S.mono x1) k2 _ fun w H2 x2 o2 => ?_
            obtain ⟨a, vs, rfl, h1, r1⟩ := asL_opd (o1.mono x2) k3
            have : w = .int n := by
              unfold asI at k4
              split at k4
              · cases k4
                exact o2.int
              · cases k4
            subst this
            exact ⟨a, n, vs, rfl, rfl, h1, by omega, by omega, by rw [r1.length]; exact big _ hz.2.2, fun p hp => q p _ _ ((x1.trans x2).free hp) ((x1.trans x2).trans (Ex.new hp)) upd_same ((r1.flat n.toNat).mono (vis_hid hp (Ex.new hp)))⟩
          · cases e
/-! ### built-ins -/
def OkC (K : PySem.W.Frag) (r : List V → Hp → VK → Prop) (g : List PyData → Option PyData) : Prop := ∀ (O : Hid) (H : Hp) vs ds z, (∀ a, O a = true → H a ≠ none) → OpdAll K O H vs ds → g ds = some z → ∀ Q : VK, (∀ v H', Ex H H' → Rp K (vis O H') v z → Q v H') → r vs H Q
theorem den_cb {r : List V → Hp → VK → Prop} {g : List PyData → Option PyData} (hr : OkC K r g) (h : DenA K tr fr) : DenP K (tCB r tr) (eA g fr) := by
  intro base O0 O σ H env d S e Q q
  unfold eA at e
  cases k1 : fr env with
  | none => simp [k1] at e
  | some xs =>
    simp [k1] at e
    refine h base O0 O σ H env xs S k1 _ fun vs H1 x1 r1 => ?_
    exact hr O H1 vs xs d (S.mono x1).all r1 e Q fun v H' x2 r2 => q v H' (x1.trans x2) r2
theorem okc_len : OkC K (fun xs H Q => ∃ x n, xs = [x] ∧ LenV K x H n ∧ Q (.int n) H) gLen := by
  intro O H vs ds z al o e Q q
  unfold gLen at e
  split at e
  · cases o with
    | cons o t =>
      cases t
      unfold dLen at e
      split at e
      · cases e
        obtain ⟨a, vs, rfl, h1, r⟩ := o.lst
        exact ⟨_, _, rfl, .inl ⟨vs, SqL.of h1, rfl⟩, by rw [r.length]; exact q _ H (Ex.refl H) (.int _)⟩
      · cases e
        obtain ⟨a, vs, rfl, h1, r⟩ := o.tup
        exact ⟨_, _, rfl, .inr ⟨vs, h1, rfl⟩, by rw [r.length]; exact q _ H (Ex.refl H) (.int _)⟩
      · split at e
        · rename_i hz
          cases e
          rw [o.str]
          exact ⟨_, _, rfl, ⟨big _ hz, rfl⟩, q _ H (Ex.refl H) (.int _)⟩
        · cases e
      · cases e
        obtain ⟨a, ns, rfl, h1, rfl⟩ := o.scr
        exact ⟨_, _, rfl, .inl ⟨_, h1, rfl⟩, by have z := q _ H (Ex.refl H) (.int _); rw [List.length_map] at z ⊢; exact z⟩
      · cases e
  · cases e
theorem okc_abs : OkC K (fun xs H Q => ∃ i, xs = [.int i] ∧ Q (.int (if i < 0 then -i else i)) H) gAbs := by
  intro O H vs ds z al o e Q q
  unfold gAbs at e
  split at e
  · cases o with
    | cons o t =>
      cases t
      cases e
      rw [o.int]
      exact ⟨_, rfl, q _ H (Ex.refl H) (.int _)⟩
  · cases e
theorem okc_max : OkC K (fun xs H Q => ∃ i j, xs = [.int i, .int j] ∧ Q (.int (if j > i then j else i)) H) gMax := by
  intro O H vs ds z al o e Q q
  unfold gMax at e
  split at e
  · cases o with
    | cons o t =>
      cases t with
      | cons o2 t =>
        cases t
        cases e
        rw [o.int, o2.int]
        exact ⟨_, _, rfl, q _ H (Ex.refl H) (.int _)⟩
  · cases e
theorem okc_int : OkC K (fun xs H Q => (∃ i, xs = [.int i] ∧ Q (.int i) H) ∨ ∃ k, xs = [.bl k] ∧ Q (.int (if k then 1 else 0)) H) gInt := by
  intro O H vs ds z al o e Q q
  unfold gInt at e
  split at e
  · cases o with
    | cons o t =>
      cases t
      cases e
      rw [o.int]
      exact .inl ⟨_, rfl, q _ H (Ex.refl H) (.int _)⟩
  · cases o with
    | cons o t =>
      cases t
      cases e
      rw [o.bl]
      exact .inr ⟨_, rfl, q _ H (Ex.refl H) (.int _)⟩
  · cases e
theorem tyx_l {H : Hp} {a : Addr} {vs : List V} (h : SqL K H a vs) : TyX K H (.ref a) (.type "list") := by
  rcases h with (h | ⟨o, h⟩) | ⟨o, its, n, h1, h2, _⟩
  · exact .base (.lst h)
  · exact .base (.frz h)
  · exact .kList h1 h2
theorem tyx_t {H : Hp} {a : Addr} {vs : List V} (h : SqT K H a vs) : TyX K H (.ref a) (.type "tuple") := by
  rcases h with (h | ⟨o, h⟩) | ⟨o, its, n, h1, h2, _⟩
  · exact .base (.tup h)
  · exact .fTuple h
  · exact .kTuple h1 h2
theorem tyD_x {O : Hid} {H : Hp} {v : V} {d : PyData} {s : String} (o : Opd K O H v d) (h : tyD d = some s) : TyX K H v (.type s) := by
  have r := o.rp
  cases r with
  | non => cases h; exact .base .non
  | bl b => cases h; exact .base (.bl b)
  | int i => cases h; exact .base (.int i)
  | str x => cases h; exact .base (.str x)
  | lst h1 _ => cases h; exact tyx_l (SqL.of h1)
  | tup h1 _ => cases h; exact tyx_t h1
  | dic h1 _ _ => cases h
  | scr h1 => cases h
theorem den_isi {n : String} (h : Den K te f) : DenP K (tCB (rIsi K) (tCons te (tCons (tC (.ty n)) tNil))) (e1 (gIsi n) f) := by
  intro base O0 O σ H env d S e Q q
  unfold e1 at e
  cases k1 : f env with
  | none => simp [k1] at e
  | some x =>
    simp only [k1, Option.bind_some, gIsi] at e
    cases k2 : tyD x with
    | none => simp [k2] at e
    | some s =>
      simp only [k2, Option.bind_some] at e
      cases k3 : kitB s n with
      | none => simp [k3] at e
      | some b =>
        simp only [k3, Option.map_some] at e
        cases e
        refine h base O0 O σ H env x S k1 _ fun v H1 x1 o1 => ?_
        exact ⟨v, .ty n, .type s, .type n, b, rfl, .ty n, tyD_x o1 k2, kit_ty k3, q _ _ x1 (.bl b)⟩
theorem asStrs_rp {H : Hp} : ∀ {vs : List V} {ds : List PyData} {ys : List Str}, RpAll K H vs ds → asStrs ds = some ys → vs = ys.map V.str
  | _, _, _, .nil, h => by cases h; rfl
  | _, _, _, .cons (d := d) (ds := ds) r t, h => by
    cases d with
    | str z =>
      have h' : (asStrs ds).map (z :: ·) = some _ := h
      cases k : asStrs ds with
      | none => rw [k] at h'; cases h'
      | some zs =>
        rw [k] at h'
        cases h'
        cases r
        rw [asStrs_rp t k]
        rfl
    | _ => cases h
def rJoin (K : PySem.W.Frag) : V → List V → Hp → VK → Prop := fun x xs H Q => ∃ a p, ∃ ys : List Str, x = .str a ∧ xs = [.ref p] ∧ (SqL K H p (ys.map V.str) ∨ SqT K H p (ys.map V.str)) ∧ (ys.map (·.length)).sum + ys.length * a.length ≤ 16777216 ∧ Q (.str (Txt.join a ys)) H
theorem den_join (ha : Den K ta fa) (hb : Den K tb fb) : DenP K (tM1 (rJoin K) ta tb) (e2 gJoin fa fb) := by
  intro base O0 O σ H env d S e Q q
  unfold e2 at e
  cases h1 : fa env with
  | none => simp [h1] at e
  | some x =>
    cases h2 : fb env with
    | none => simp [h1, h2] at e
    | some y =>
      simp only [h1, h2, Option.bind_some] at e
      unfold gJoin at e
      split at e
      · rename_i a ds
        cases k : asStrs ds with
        | none => simp [k] at e
        | some ys =>
          simp only [k, Option.bind_some] at e
          split at e
          · rename_i hz
            cases e
            refine ha base O0 O σ H env _ S h1 _ fun v H1 x1 o1 => ⟨⟨_, o1.str⟩, ?_⟩
            refine hb base O0 O σ H1 env _ (S.mono x1) h2 _ fun w H2 x2 o2 => ?_
            obtain ⟨p, vs, rfl, h3, r⟩ := o2.lst
            refine ⟨a, p, ys, o1.str, rfl, .inl ?_, by omega, q _ _ (x1.trans x2) (.str _)⟩
            rw [← asStrs_rp r k]
            exact SqL.of h3
          · cases e
      · cases e
/-- list(x) -/
def nList (f : Env → Option (List PyData)) : Env → Option (List PyData) := fun env => (f env).bind fun
  | [d] => asLT d
  | _ => none
theorem den_list (h : DenA K tr fr) : DenN K (tCB (fun xs H Q => ∃ p ys, xs = [.ref p] ∧ (SqL K H p ys ∨ SqT K H p ys) ∧ ∀ l, H l = none → Q (.ref l) (upd H l (.lst ys))) tr) (nList fr) := by
  intro base O0 O σ H env ds S e Q q
  unfold nList at e
  cases k1 : fr env with
  | none => simp [k1] at e
  | some xs =>
    simp only [k1, Option.bind_some] at e
    split at e
    · refine h base O0 O σ H env _ S k1 _ fun vs H1 x1 r1 => ?_
      cases r1 with
      | cons o t =>
        cases t
        obtain ⟨a, ws, rfl, h1, r⟩ := asLT_opd o e
        exact ⟨a, ws, rfl, h1, fun p hp => q p _ _ (x1.free hp) (x1.trans (Ex.new hp)) upd_same (r.mono (vis_hid hp (Ex.new hp)))⟩
    · cases e
end
end PL
namespace PL
open PySem L2

/-! ### what is walked -/
/-- J gives the items ds; Bs holds what is walked, Bi the items -/
def ItOk (K : PySem.W.Frag) (Bs Bi : Hp) (J : It) (ds : List PyData) : Prop := ∀ (O : Hid) (H : Hp), (∀ a, O a = true → H a ≠ none) → Ex Bs H → Ex Bi (vis O H) →
  (∀ i d, ds[i]? = some d → J.go i H ∧ ∀ x H2, J.yld i H x H2 → Ex H H2 ∧ Rp K (vis O H2) x d) ∧ ∀ i, ds.length ≤ i → J.stop i H
def DenI (K : PySem.W.Frag) (wi : TI) (f : Env → Option (List PyData)) : Prop := ∀ base O0 O σ H env ds, Sat K base O0 O σ H env → f env = some ds → ∀ R : It → Hp → Prop, (∀ J H', Ex H H' → ItOk K (vis O H') (vis O H') J ds → R J H') → wi σ H R
/-- .. that may be hidden (for a comprehension) -/
def DenIO (K : PySem.W.Frag) (wi : TI) (f : Env → Option (List PyData)) : Prop := ∀ base O0 O σ H env ds, Sat K base O0 O σ H env → f env = some ds → ∀ R : It → Hp → Prop, (∀ J H', Ex H H' → ItOk K H' (vis O H') J ds → R J H') → wi σ H R
section
variable {K : PySem.W.Frag} {te ta tb tx : TE} {tr : TA} {f fa fb : Env → Option PyData} {fr : Env → Option (List PyData)} {wi : TI} {fi : Env → Option (List PyData)}
theorem DenI.o (h : DenI K wi fi) : DenIO K wi fi := fun base O0 O σ H env ds S e R q => h base O0 O σ H env ds S e R fun J H' x it => q J H' x fun O2 H2 al e1 e2 => it O2 H2 al (vis_le.trans e1) e2
theorem sql_eq {H : Hp} {a : Addr} {vs : List V} (h : H a = some (.lst vs)) (hn : ∀ xs, SqL K H a xs → xs = vs) : True := trivial
/-- the items of a list that stands, item by item -/
theorem it_lst {Bs Bi : Hp} {a : Addr} {vs : List V} {ds : List PyData} (h : SqL K Bs a vs) (r : RpAll K Bi vs ds) : ItOk K Bs Bi (Itl K a) ds := fun O H al e1 e2 =>
  ⟨fun i d hd => by
    obtain ⟨v, hv, rv⟩ := r.get hd
    refine ⟨⟨vs, v, ex_l e1 h, hv⟩, fun x H2 y => ?_⟩
    obtain ⟨rfl, y⟩ := y
    have z := y vs (ex_l e1 h)
    rw [hv] at z
    cases z
    exact ⟨Ex.refl _, rv.mono e2⟩, fun i hi => ⟨vs, ex_l e1 h, by rw [r.length]; exact hi⟩⟩
theorem it_tup {Bs Bi : Hp} {a : Addr} {vs : List V} {ds : List PyData} (h : SqT K Bs a vs) (r : RpAll K Bi vs ds) : ItOk K Bs Bi (Itt K a) ds := fun O H al e1 e2 =>
  ⟨fun i d hd => by
    obtain ⟨v, hv, rv⟩ := r.get hd
    refine ⟨⟨vs, v, ex_t e1 h, hv⟩, fun x H2 y => ?_⟩
    obtain ⟨rfl, y⟩ := y
    have z := y vs (ex_t e1 h)
    rw [hv] at z
    cases z
    exact ⟨Ex.refl _, rv.mono e2⟩, fun i hi => ⟨vs, ex_t e1 h, by rw [r.length]; exact hi⟩⟩
def iLS (f : Env → Option PyData) : Env → Option (List PyData) := fun env => (f env).bind asLS
def asT : PyData → Option (List PyData)
  | .tuple ds => some ds
  | _ => none
def iT (f : Env → Option PyData) : Env → Option (List PyData) := fun env => (f env).bind asT
theorem den_ilo (h : Den K te f) : DenIO K (iList K te) (iLS f) := by
  intro base O0 O σ H env ds S e R q
  unfold iLS at e
  cases k1 : f env with
  | none => simp [k1] at e
  | some x =>
    simp only [k1, Option.bind_some] at e
    refine h base O0 O σ H env x S k1 _ fun v H1 x1 o1 => ?_
    obtain ⟨a, vs, rfl, hs, r⟩ := asLS_opd o1 e
    exact ⟨a, rfl, ⟨vs, hs⟩, q _ H1 x1 (it_lst hs r)⟩
theorem den_il (h : DenP K te f) : DenI K (iList K te) (iLS f) := by
  intro base O0 O σ H env ds S e R q
  unfold iLS at e
  cases k1 : f env with
  | none => simp [k1] at e
  | some x =>
    simp only [k1, Option.bind_some] at e
    refine h base O0 O σ H env x S k1 _ fun v H1 x1 o1 => ?_
    have no : Opd K (fun _ => false) (vis O H1) v x := .inl (o1.mono vis_no)
    obtain ⟨a, vs, rfl, hs, r⟩ := asLS_opd no e
    exact ⟨a, rfl, ⟨vs, ex_l vis_le hs⟩, q _ H1 x1 (it_lst hs (r.mono vis_le))⟩
theorem den_it (h : Den K te f) : DenI K (iTup K te) (iT f) := by
  intro base O0 O σ H env ds S e R q
  unfold iT at e
  cases k1 : f env with
  | none => simp [k1] at e
  | some x =>
    simp only [k1, Option.bind_some] at e
    refine h base O0 O σ H env x S k1 _ fun v H1 x1 o1 => ?_
    unfold asT at e
    split at e
    · cases e
      rcases o1 with o1 | ⟨_, _, _, _, _, _, z⟩ | ⟨_, z, _⟩
      · cases o1 with
        | tup hs r => exact ⟨_, rfl, ⟨_, ex_t vis_le hs⟩, q _ H1 x1 (it_tup hs r)⟩
      · cases z
      · cases z
    · cases e
/-- range(n) -/
def rgD (lo : Int) (n : Nat) : List PyData := (List.range n).map fun (i : Nat) => PyData.int (lo + (i : Int))
theorem it_rg {Bs Bi : Hp} {lo : Int} {n : Nat} : ItOk K Bs Bi (Itr lo n) (rgD lo n) := fun O2 H2 al e1 e2 => ⟨fun i d hd => by
    unfold rgD at hd
    rw [List.getElem?_map] at hd
    cases k2 : (List.range n)[i]? with
    | none => rw [k2] at hd; cases hd
    | some j =>
      rw [k2] at hd
      cases hd
      obtain ⟨hi1, hi2⟩ := List.getElem?_eq_some_iff.mp k2
      rw [List.length_range] at hi1
      rw [List.getElem_range] at hi2
      subst hi2
      refine ⟨hi1, fun x H3 y => ?_⟩
      obtain ⟨rfl, rfl⟩ := y
      exact ⟨Ex.refl _, .int _⟩, fun i hi => by
    unfold rgD at hi
    rw [List.length_map, List.length_range] at hi
    exact hi⟩
def iR1 (f : Env → Option (List PyData)) : Env → Option (List PyData) := fun env => (f env).bind fun
  | [.int n] => if -100000 ≤ n ∧ n ≤ 100000 then some (rgD 0 n.toNat) else none
  | _ => none
theorem den_ir1 (h : DenA K tr fr) : DenI K (iRng1 tr) (iR1 fr) := by
  intro base O0 O σ H env ds S e R q
  unfold iR1 at e
  cases k1 : fr env with
  | none => simp [k1] at e
  | some xs =>
    simp only [k1, Option.bind_some] at e
    split at e
    · split at e
      · cases e
        rename_i n hn
        refine h base O0 O σ H env _ S k1 _ fun vs H1 x1 r1 => ?_
        cases r1 with
        | cons o t =>
          cases t
          rw [o.int]
          exact ⟨n, rfl, by omega, by omega, q _ H1 x1 it_rg⟩
      · cases e
    · cases e
def iR2 (f : Env → Option (List PyData)) : Env → Option (List PyData) := fun env => (f env).bind fun
  | [.int m, .int n] => if -100000 ≤ n ∧ n ≤ 100000 ∧ -100000 ≤ m ∧ m ≤ 100000 then some (rgD m (n - m).toNat) else none
  | _ => none
theorem den_ir2 (h : DenA K tr fr) : DenI K (iRng2 tr) (iR2 fr) := by
  intro base O0 O σ H env ds S e R q
  unfold iR2 at e
  cases k1 : fr env with
  | none => simp [k1] at e
  | some xs =>
    simp only [k1, Option.bind_some] at e
    split at e
    · split at e
      · cases e
        rename_i m n hn
        refine h base O0 O σ H env _ S k1 _ fun vs H1 x1 r1 => ?_
        cases r1 with
        | cons o t =>
          cases t with
          | cons o2 t =>
            cases t
            rw [o.int, o2.int]
            exact ⟨m, n, rfl, ⟨by omega, by omega, by omega, by omega⟩, q _ H1 x1 it_rg⟩
      · cases e
    · cases e
/-- a text, sign by sign -/
def asSigns : PyData → Option (List PyData)
  | .str z => some (z.cps.toList.map fun c => .str ⟨#[c]⟩)
  | _ => none
def iS (f : Env → Option PyData) : Env → Option (List PyData) := fun env => (f env).bind asSigns
theorem den_is (h : Den K te f) : DenI K (iStr te) (iS f) := by
  intro base O0 O σ H env ds S e R q
  unfold iS at e
  cases k1 : f env with
  | none => simp [k1] at e
  | some x =>
    simp only [k1, Option.bind_some] at e
    refine h base O0 O σ H env x S k1 _ fun v H1 x1 o1 => ?_
    unfold asSigns at e
    split at e
    · cases e
      rename_i z
      refine ⟨z, o1.str, q _ H1 x1 fun O2 H2 al e1 e2 => ⟨fun i d hd => ?_, fun i hi => ?_⟩⟩
      · rw [List.getElem?_map] at hd
        cases k2 : z.cps.toList[i]? with
        | none => rw [k2] at hd; cases hd
        | some c =>
          rw [k2] at hd
          cases hd
          rw [Array.getElem?_toList] at k2
          refine ⟨(Array.getElem?_eq_some_iff.mp k2).1, fun x H3 y => ?_⟩
          obtain ⟨rfl, c2, hc, rfl⟩ := y
          rw [k2] at hc
          cases hc
          exact ⟨Ex.refl _, .str _⟩
      · rw [List.length_map, Array.length_toList] at hi
        exact hi
    · cases e
/-- reversed(xs) -/
def a1 (g : PyData → Option (List PyData)) (f : Env → Option (List PyData)) : Env → Option (List PyData) := fun env => (f env).bind fun
  | [d] => g d
  | _ => none
def iRv (f : Env → Option (List PyData)) : Env → Option (List PyData) := fun env => (a1 asLS f env).map List.reverse
theorem den_irv (h : DenAP K tr fr) : DenI K (iRev K tr) (iRv fr) := by
  intro base O0 O σ H env ds S e R q
  unfold iRv a1 at e
  cases k1 : fr env with
  | none => simp [k1] at e
  | some xs =>
    simp only [k1, Option.bind_some] at e
    split at e
    · rename_i d
      cases k2 : asLS d with
      | none => rw [k2] at e; cases e
      | some es =>
        rw [k2] at e
        cases e
        refine h base O0 O σ H env _ S k1 _ fun vs H1 x1 r1 => ?_
        cases r1 with
        | cons o t =>
          cases t
          have no : Opd K (fun _ => false) (vis O H1) _ d := .inl (o.mono vis_no)
          obtain ⟨a, vs, rfl, hs, r⟩ := asLS_opd no k2
          have r' : RpAll K (vis O H1) vs es := r.mono vis_le
          refine ⟨a, vs, rfl, ex_l vis_le hs, q _ H1 x1 fun O2 H2 al e1 e2 => ⟨fun i d hd => ?_, fun i hi => ?_⟩⟩
          · have hi := (List.getElem?_eq_some_iff.mp hd).1
            rw [List.length_reverse] at hi
            rw [List.getElem?_reverse hi] at hd
            obtain ⟨v, hv, rv⟩ := r'.get hd
            rw [← r'.length] at hv hi
            refine ⟨⟨hi, vs, v, ex_l e1 hs, hv⟩, fun x H3 y => ?_⟩
            obtain ⟨rfl, y⟩ := y
            have z := y vs (ex_l e1 hs)
            rw [hv] at z
            cases z
            exact ⟨Ex.refl _, rv.mono e2⟩
          · rw [List.length_reverse, ← r'.length] at hi
            exact hi
    · cases e
/-- enumerate(xs) -/
def numD : Nat → List PyData → List PyData
  | _, [] => []
  | n, d :: ds => .tuple [.int (n : Int), d] :: numD (n + 1) ds
theorem numD_at : ∀ (ds : List PyData) (n i : Nat), (numD n ds)[i]? = (ds[i]?).map fun d => .tuple [.int ((n + i : Nat) : Int), d]
  | [], n, i => by simp [numD]
  | d :: ds, n, 0 => by simp [numD]
  | d :: ds, n, i + 1 => by
    show (numD (n + 1) ds)[i]? = _
    rw [numD_at ds (n + 1) i, List.getElem?_cons_succ]
    have : n + 1 + i = n + (i + 1) := by omega
    rw [this]
theorem numD_len : ∀ (ds : List PyData) (n : Nat), (numD n ds).length = ds.length
  | [], n => rfl
  | d :: ds, n => congrArg Nat.succ (numD_len ds (n + 1))
def iEn (f : Env → Option (List PyData)) : Env → Option (List PyData) := fun env => (a1 asLS f env).map (numD 0)
theorem new_tup {O2 : Hid} {H2 : Hp} {T : Addr} {vs : List V} {ds : List PyData} (al : ∀ a, O2 a = true → H2 a ≠ none) (hT : H2 T = none) (r : RpAll K (vis O2 H2) vs ds) :
    Ex H2 (upd H2 T (.tup vs)) ∧ Rp K (vis O2 (upd H2 T (.tup vs))) (.ref T) (.tuple ds) := by
  have op : O2 T = false := by
    cases q : O2 T with
    | false => rfl
    | true => exact absurd hT (al T q)
  exact ⟨Ex.new hT, .tup (SqT.of (vis_at op upd_same)) (r.mono (vis_mono (Ex.new hT)))⟩
theorem den_ien (h : DenAP K tr fr) : DenI K (iEnum K tr) (iEn fr) := by
  intro base O0 O σ H env ds S e R q
  unfold iEn a1 at e
  cases k1 : fr env with
  | none => simp [k1] at e
  | some xs =>
    simp only [k1, Option.bind_some] at e
    split at e
    · rename_i d
      cases k2 : asLS d with
      | none => rw [k2] at e; cases e
      | some es =>
        rw [k2] at e
        cases e
        refine h base O0 O σ H env _ S k1 _ fun vs H1 x1 r1 => ?_
        cases r1 with
        | cons o t =>
          cases t
          have no : Opd K (fun _ => false) (vis O H1) _ d := .inl (o.mono vis_no)
          obtain ⟨a, vs, rfl, hs, r⟩ := asLS_opd no k2
          have r' : RpAll K (vis O H1) vs es := r.mono vis_le
          refine ⟨a, vs, rfl, ex_l vis_le hs, q _ H1 x1 fun O2 H2 al e1 e2 => ⟨fun i d hd => ?_, fun i hi => ?_⟩⟩
          · rw [numD_at] at hd
            cases k3 : es[i]? with
            | none => rw [k3] at hd; cases hd
            | some d2 =>
              rw [k3] at hd
              cases hd
              obtain ⟨v, hv, rv⟩ := r'.get k3
              refine ⟨⟨vs, v, ex_l e1 hs, hv⟩, fun x H3 y => ?_⟩
              obtain ⟨T, x2, rfl, hT, rfl, y⟩ := y
              have z := y vs (ex_l e1 hs)
              rw [hv] at z
              cases z
              rw [Nat.zero_add]
              exact new_tup al hT (.cons (.int _) (.cons (rv.mono e2) .nil))
          · rw [numD_len, ← r'.length] at hi
            exact ⟨vs, ex_l e1 hs, hi⟩
    · cases e
/-- zip(xs, ys) -/
def zipD : List PyData → List PyData → List PyData
  | x :: xs, y :: ys => .tuple [x, y] :: zipD xs ys
  | _, _ => []
theorem zipD_at : ∀ (xs ys : List PyData) (i : Nat) (d : PyData), (zipD xs ys)[i]? = some d → ∃ x y, xs[i]? = some x ∧ ys[i]? = some y ∧ d = .tuple [x, y]
  | [], ys, i, d, h => by simp [zipD] at h
  | x :: xs, [], i, d, h => by simp [zipD] at h
  | x :: xs, y :: ys, 0, d, h => by
    simp [zipD] at h
    exact ⟨x, y, rfl, rfl, h.symm⟩
  | x :: xs, y :: ys, i + 1, d, h => zipD_at xs ys i d h
theorem zipD_len : ∀ (xs ys : List PyData), (zipD xs ys).length = min xs.length ys.length
  | [], ys => by simp [zipD]
  | x :: xs, [] => by simp [zipD]
  | x :: xs, y :: ys => by
    show (zipD xs ys).length + 1 = _
    rw [zipD_len xs ys, List.length_cons, List.length_cons]
    omega
def iZp (f : Env → Option (List PyData)) : Env → Option (List PyData) := fun env => (f env).bind fun
  | [d, e] => (asLS d).bind fun xs => (asLS e).map fun ys => zipD xs ys
  | _ => none
theorem den_izp (h : DenAP K tr fr) : DenI K (iZip K tr) (iZp fr) := by
  intro base O0 O σ H env ds S e R q
  unfold iZp at e
  cases k1 : fr env with
  | none => simp [k1] at e
  | some xs =>
    simp only [k1, Option.bind_some] at e
    split at e
    · rename_i d1 d2
      cases k2 : asLS d1 with
      | none => simp [k2] at e
      | some es =>
        cases k3 : asLS d2 with
        | none => simp [k2, k3] at e
        | some fs =>
          simp only [k2, k3, Option.bind_some, Option.map_some] at e
          cases e
          refine h base O0 O σ H env _ S k1 _ fun vs H1 x1 r1 => ?_
          cases r1 with
          | cons o t =>
            cases t with
            | cons o2 t =>
              cases t
              have no : Opd K (fun _ => false) (vis O H1) _ d1 := .inl (o.mono vis_no)
              obtain ⟨a, vs, rfl, hs, r⟩ := asLS_opd no k2
              have no2 : Opd K (fun _ => false) (vis O H1) _ d2 := .inl (o2.mono vis_no)
              obtain ⟨b, ws, rfl, hs2, r2⟩ := asLS_opd no2 k3
              have r' : RpAll K (vis O H1) vs es := r.mono vis_le
              have r2' : RpAll K (vis O H1) ws fs := r2.mono vis_le
              refine ⟨a, b, vs, ws, rfl, ex_l vis_le hs, ex_l vis_le hs2, q _ H1 x1 fun O2 H2 al e1 e2 => ⟨fun i d hd => ?_, fun i hi => ?_⟩⟩
              · obtain ⟨x, y, hx, hy, rfl⟩ := zipD_at es fs i d hd
                obtain ⟨v, hv, rv⟩ := r'.get hx
                obtain ⟨w, hw, rw_⟩ := r2'.get hy
                refine ⟨⟨vs, ws, v, w, ex_l e1 hs, ex_l e1 hs2, hv, hw⟩, fun x H3 yy => ?_⟩
                obtain ⟨T, x2, y2, rfl, hT, rfl, y3, y4⟩ := yy
                have z := y3 vs (ex_l e1 hs)
                rw [hv] at z
                cases z
                have z2 := y4 ws (ex_l e1 hs2)
                rw [hw] at z2
                cases z2
                exact new_tup al hT (.cons (rv.mono e2) (.cons (rw_.mono e2) .nil))
              · rw [zipD_len] at hi
                exact ⟨vs, ws, ex_l e1 hs, ex_l e1 hs2, by rw [r'.length, r2'.length]; omega⟩
    · cases e

/-! ### targets -/
/-- a target: it sets slots of S alone -/
def DenG (K : PySem.W.Frag) (S : List Nat) (g : TG) (G : PyData → Env → Option Env) : Prop := ∀ base O0 O σ H env v d env', Sat K base O0 O σ H env → Rp K (vis O H) v d → G d env = some env' → ∀ Q : L2.St → Hp → Prop, (∀ σ', Sat K base O0 O σ' H env' → σ'.length = σ.length → (∀ i, i ∉ S → σ'[i]? = σ[i]?) → Q σ' H) → g v σ H Q
def DenGs (K : PySem.W.Frag) (S : List Nat) (g : TGs) (G : List PyData → Env → Option Env) : Prop := ∀ base O0 O σ H env vs ds env', Sat K base O0 O σ H env → RpAll K (vis O H) vs ds → G ds env = some env' → ∀ Q : L2.St → Hp → Prop, (∀ σ', Sat K base O0 O σ' H env' → σ'.length = σ.length → (∀ i, i ∉ S → σ'[i]? = σ[i]?) → Q σ' H) → g vs σ H Q
def tgN (i : Nat) : PyData → Env → Option Env := fun d env => some (env.set i (.sh d))
def tgNil : List PyData → Env → Option Env
  | [], env => some env
  | _ :: _, _ => none
def tgCons (g : PyData → Env → Option Env) (gs : List PyData → Env → Option Env) : List PyData → Env → Option Env
  | d :: ds, env => (g d env).bind (gs ds)
  | [], _ => none
def tgT (n : Nat) (gs : List PyData → Env → Option Env) : PyData → Env → Option Env := fun d env => match d with
  | .tuple ds => if ds.length = n then gs ds env else none
  | _ => none
theorem den_gn {i : Nat} {S : List Nat} (hi : i ∈ S) : DenG K S (gName i) (tgN i) := by
  intro base O0 O σ H env v d env' s r e Q q
  cases e
  exact q _ (s.set r) (List.length_set ..) fun j hj => List.getElem?_set_ne (fun (z : i = j) => hj (z ▸ hi))
theorem den_gnil {S : List Nat} : DenGs K S gNil tgNil := by
  intro base O0 O σ H env vs ds env' s r e Q q
  unfold tgNil at e
  split at e
  · cases e
    cases r
    exact ⟨rfl, q σ s rfl fun _ _ => rfl⟩
  · cases e
theorem den_gcons {S : List Nat} {g : TG} {gs : TGs} {G : PyData → Env → Option Env} {Gs : List PyData → Env → Option Env} (h : DenG K S g G) (hs : DenGs K S gs Gs) : DenGs K S (gCons g gs) (tgCons G Gs) := by
  intro base O0 O σ H env vs ds env' s r e Q q
  unfold tgCons at e
  split at e
  · rename_i d ds
    cases k : G d env with
    | none => simp [k] at e
    | some e1 =>
      simp only [k, Option.bind_some] at e
      cases r with
      | cons r t =>
        refine ⟨_, _, rfl, h base O0 O σ H env _ d e1 s r k _ fun σ1 s1 l1 o1 => ?_⟩
        exact hs base O0 O σ1 H e1 _ ds env' s1 t e Q fun σ2 s2 l2 o2 => q σ2 s2 (l2.trans l1) fun j hj => (o2 j hj).trans (o1 j hj)
  · cases e
theorem den_gtup {S : List Nat} {n : Nat} {gs : TGs} {Gs : List PyData → Env → Option Env} (hs : DenGs K S gs Gs) : DenG K S (gTup K n gs) (tgT n Gs) := by
  intro base O0 O σ H env v d env' s r e Q q
  unfold tgT at e
  split at e
  · split at e
    · cases r with
      | tup h ra => exact ⟨_, _, rfl, ex_t vis_le h, by rw [ra.length]; assumption, hs base O0 O σ H env _ _ env' s ra e Q q⟩
    · cases e
  · cases e

/-! ### comprehensions -/
def wipeE (env : Env) : List Nat → Env
  | [] => env
  | v :: vs => (wipeE env vs).set v .un
def lcGo (G : PyData → Env → Option Env) (t : Env → Option Bool) (f : Env → Option PyData) (env : Env) : List PyData → Option (List PyData)
  | [] => some []
  | x :: xs => (G x env).bind fun e1 => (t e1).bind fun b => if b then (f e1).bind fun d => (lcGo G t f env xs).map (d :: ·) else lcGo G t f env xs
def nLc (fi : Env → Option (List PyData)) (G : PyData → Env → Option Env) (t : Env → Option Bool) (f : Env → Option PyData) (vs : List Nat) : Env → Option (List PyData) := fun env => (fi env).bind fun xs => if xs.length ≤ 100000 then lcGo G t f (wipeE env vs) xs else none
theorem Sat.wipe {base : Hp} {O0 O : Hid} {σ : L2.St} {H : Hp} {env : Env} (S : Sat K base O0 O σ H env) : ∀ vs : List Nat, Sat K base O0 O (wipe σ vs) H (wipeE env vs)
  | [] => S
  | v :: vs => (S.wipe vs).un v
theorem wipe_in {σ : L2.St} {i : Nat} (hi : i < σ.length) : ∀ {vs : List Nat}, i ∈ vs → (wipe σ vs)[i]? = some none
  | v :: vs, h => by
    show ((wipe σ vs).set v none)[i]? = _
    by_cases e : v = i
    · subst e
      rw [List.getElem?_set_self (by rw [wipe_length]; exact hi)]
    · rw [List.getElem?_set_ne e]
      rcases List.mem_cons.mp h with h | h
      · exact absurd h.symm e
      · exact wipe_in hi h
theorem wipe_same {σ σ2 : L2.St} {vs : List Nat} (hl : σ2.length = (wipe σ vs).length) (h : ∀ i, i ∉ vs → σ2[i]? = (wipe σ vs)[i]?) : wipe σ2 vs = wipe σ vs := by
  have hl' : σ2.length = σ.length := by rw [hl, wipe_length]
  apply List.ext_getElem?
  intro i
  by_cases m : i ∈ vs
  · by_cases hi : i < σ.length
    · rw [wipe_in hi m, wipe_in (by omega) m]
    · rw [List.getElem?_eq_none (by rw [wipe_length]; omega), List.getElem?_eq_none (by rw [wipe_length]; omega)]
  · rw [wipe_out m, h i m]
/-- a new thing at D may change: it is hidden besides -/
theorem den_lc {wi : TI} {g : TG} {tt : TT} {fi : Env → Option (List PyData)} {G : PyData → Env → Option Env} {t : Env → Option Bool} {vs : List Nat}
    (hi : DenIO K wi fi) (hg : DenG K vs g G) (ht : DenT K tt t) (he : DenP K te f) : DenN K (tLc wi g tt te vs) (nLc fi G t f vs) := by
  intro base O0 O σ H env ds S e Q q
  unfold nLc at e
  cases k1 : fi env with
  | none => simp [k1] at e
  | some xs =>
    simp only [k1, Option.bind_some] at e
    split at e
    case isFalse => cases e
    rename_i hz
    refine hi base O0 O σ H env xs S k1 _ fun J H1 x1 it D hD => ?_
    have S1 := S.mono x1
    have bD : base D = none := S1.ex.free hD
    refine ⟨fun i m H' => ∃ acc done rest, Ex H1 H' ∧ H' D = some (.lst acc) ∧ RpAll K (vis (hid O D) H') acc done ∧ lcGo G t f (wipeE env vs) (xs.drop i) = some rest ∧ ds = done ++ rest ∧ m = xs.length - i ∧ acc.length ≤ i ∧ i ≤ xs.length, ⟨_, [], [], ds, Ex.new hD, upd_same, .nil, e, rfl, rfl, Nat.le_refl _, Nat.zero_le _⟩, fun i m H' hw => ?_⟩
    obtain ⟨acc, done, rest, e1, hacc, ra, eq, hds, rfl, hai, hix⟩ := hw
    have alD : ∀ a, hid O D a = true → H' a ≠ none := fun a ha z => by
      unfold hid at ha
      by_cases qa : O a = true
      · exact S1.all a qa (e1.free z)
      · have : a = D := by simpa [qa] using ha
        rw [this, hacc] at z
        cases z
    have S2 : Sat K base O0 (hid O D) (wipe σ vs) H' (wipeE env vs) := (S1.wipe vs).hide hD e1 (by rw [hacc]; exact fun z => nomatch z)
    have itH := it (hid O D) H' alD e1 (vis_hid hD e1)
    by_cases hlt : i < xs.length
    · refine .inr ?_
      have hx : xs[i]? = some xs[i] := List.getElem?_eq_getElem hlt
      obtain ⟨go, yl⟩ := itH.1 i _ hx
      rw [List.drop_eq_getElem_cons hlt] at eq
      unfold lcGo at eq
      cases kg : G xs[i] (wipeE env vs) with
      | none => simp [kg] at eq
      | some e2 =>
        simp only [kg, Option.bind_some] at eq
        cases kt : t e2 with
        | none => simp [kt] at eq
        | some b =>
          simp only [kt, Option.bind_some] at eq
          refine ⟨go, fun H2 => ∃ acc done rest, Ex H1 H2 ∧ H2 D = some (.lst acc) ∧ RpAll K (vis (hid O D) H2) acc done ∧ lcGo G t f (wipeE env vs) (xs.drop (i + 1)) = some rest ∧ ds = done ++ rest ∧ acc.length ≤ i + 1, fun H2 h => ?_, fun x H2 y => ?_⟩
          · obtain ⟨acc2, done2, rest2, a1, a2, a3, a4, a5, a6⟩ := h
            exact ⟨xs.length - (i + 1), by omega, acc2, done2, rest2, a1, a2, a3, a4, a5, rfl, a6, by omega⟩
          · obtain ⟨xe, rx⟩ := yl x H2 y
            refine hg base O0 (hid O D) (wipe σ vs) H2 (wipeE env vs) x xs[i] e2 (S2.mono xe) rx kg _ fun σ2 s2 l2 o2 => ⟨wipe_same l2 o2, ?_⟩
            refine ht base O0 (hid O D) σ2 H2 e2 b s2 kt _ fun H3 x3 => ?_
            have hD3 : H3 D = some (.lst acc) := x3 _ _ (xe _ _ hacc)
            cases b with
            | true =>
              show te σ2 H3 _
              rw [if_pos rfl] at eq
              cases kf : f e2 with
              | none => simp [kf] at eq
              | some d =>
                simp only [kf, Option.bind_some] at eq
                cases kr : lcGo G t f (wipeE env vs) (xs.drop (i + 1)) with
                | none => rw [kr] at eq; cases eq
                | some rest2 =>
                  rw [kr] at eq
                  cases eq
                  refine he base O0 (hid O D) σ2 H3 e2 d (s2.mono x3) kf _ fun v H4 x4 rv => ⟨acc, x4 _ _ hD3, ?_, acc ++ [v], done ++ [d], rest2, ?_, upd_same, ?_, rfl, by rw [hds, List.append_assoc]; rfl, by rw [List.length_append, List.length_singleton]; omega⟩
                  · have := big 100000 (Nat.le_refl _)
                    omega
                  · intro a o ha
                    rw [upd_ne (ne_of_none ha hD)]
                    exact x4 _ _ (x3 _ _ (xe _ _ (e1 _ _ ha)))
                  · rw [vis_upd (by unfold hid; simp)]
                    exact (ra.mono (vis_mono ((xe.trans x3).trans x4))).append (.cons rv .nil)
            | false =>
              show ∃ acc done rest, _
              rw [if_neg Bool.false_ne_true] at eq
              exact ⟨acc, done, rest, (e1.trans xe).trans x3, hD3, ra.mono (vis_mono (xe.trans x3)), eq, hds, by omega⟩
    · refine .inl ⟨itH.2 i (by omega), ?_⟩
      rw [List.drop_eq_nil_of_le (by omega)] at eq
      cases eq
      rw [List.append_nil] at hds
      subst hds
      exact q D acc H' (x1.free hD) (x1.trans e1) hacc ra
end
end PL
namespace PL
open PySem L2 PySem.Spec PyProof.Rows

inductive Out where
  | nx (e : Env) | rt (d : PyData) | br (e : Env) | ct (e : Env) | rtn (ds : List PyData)
/-- what must hold behind -/
def Post (K : PySem.W.Frag) (base : Hp) (O0 : Hid) (B : Hp) (D : Ends) : Out → Prop
  | .nx e => ∀ O σ H, Ex B (vis O H) → Sat K base O0 O σ H e → D.nx σ H
  | .br e => ∀ O σ H, Ex B (vis O H) → Sat K base O0 O σ H e → D.bk σ H
  | .ct e => ∀ O σ H, Ex B (vis O H) → Sat K base O0 O σ H e → D.ct σ H
  | .rt d => ∀ v H, Ex base H → Ex B (vis O0 H) → Rp K (vis O0 H) v d → D.rt v H
  | .rtn ds => ∀ p vs H, base p = none → Ex base H → Ex B (vis O0 H) → H p = some (.lst vs) → RpAll K (vis (hid O0 p) H) vs ds → D.rt (.ref p) H
def DenS (K : PySem.W.Frag) (ts : TS) (F : Env → Option Out) : Prop := ∀ base O0 O σ H env o (D : Ends), Sat K base O0 O σ H env → F env = some o → Post K base O0 (vis O H) D o → ts D σ H
section
variable {K : PySem.W.Frag} {base : Hp} {O0 O : Hid} {σ : L2.St} {H : Hp} {env : Env} {D : Ends}
theorem Post.mono {B B' : Hp} (e : Ex B B') {o : Out} (h : Post K base O0 B D o) : Post K base O0 B' D o := by
  cases o with
  | nx en => exact fun O σ H x S => h O σ H (e.trans x) S
  | br en => exact fun O σ H x S => h O σ H (e.trans x) S
  | ct en => exact fun O σ H x S => h O σ H (e.trans x) S
  | rt d => exact fun v H x y r => h v H x (e.trans y) r
  | rtn ds => exact fun p vs H b x y g r => h p vs H b x (e.trans y) g r
/-- what is hidden now, but was not at first, is new -/
theorem Sat.out (S : Sat K base O0 O σ H env) : Ex (vis O H) (vis O0 H) := fun a o h => by
  unfold vis at *
  by_cases q : O a = true
  · rw [if_pos q] at h
    cases h
  · rw [if_neg q] at h
    rw [if_neg (fun z => q (S.sub a z))]
    exact h
variable {te ta tb tx : TE} {tr : TA} {f fa fb : Env → Option PyData} {fr fn : Env → Option (List PyData)} {ts tu tw : TS} {F F2 F3 : Env → Option Out} {tt : TT} {t : Env → Option Bool}
def bindO (o : Out) (k : Env → Option Out) : Option Out := match o with
  | .nx e => k e
  | o => some o
def sSeq (F F2 : Env → Option Out) : Env → Option Out := fun env => (F env).bind fun o => bindO o F2
theorem dens_seq (h1 : DenS K ts F) (h2 : DenS K tu F2) : DenS K (tSeq ts tu) (sSeq F F2) := by
  intro base O0 O σ H env o D S e P
  unfold sSeq at e
  cases k : F env with
  | none => simp [k] at e
  | some o1 =>
    simp only [k, Option.bind_some] at e
    refine h1 base O0 O σ H env o1 _ S k ?_
    cases o1 with
    | nx en => exact fun O2 σ2 H2 x S2 => h2 base O0 O2 σ2 H2 en o D S2 e (P.mono x)
    | br en => cases e; exact P
    | ct en => cases e; exact P
    | rt d => cases e; exact P
    | rtn ds => cases e; exact P
def sNext : Env → Option Out := fun env => some (.nx env)
theorem dens_next : DenS K tNext sNext := by
  intro base O0 O σ H env o D S e P
  cases e
  exact P O σ H (Ex.refl _) S
def sBreak : Env → Option Out := fun env => some (.br env)
theorem dens_break : DenS K tBreak sBreak := by
  intro base O0 O σ H env o D S e P
  cases e
  exact P O σ H (Ex.refl _) S
def sCont : Env → Option Out := fun env => some (.ct env)
theorem dens_cont : DenS K tCont sCont := by
  intro base O0 O σ H env o D S e P
  cases e
  exact P O σ H (Ex.refl _) S
/-- x = e -/
def sAsg (f : Env → Option PyData) (G : PyData → Env → Option Env) : Env → Option Out := fun env => (f env).bind fun d => (G d env).map Out.nx
theorem dens_asg {S0 : List Nat} {g : TG} {G : PyData → Env → Option Env} (h : DenP K te f) (hg : DenG K S0 g G) : DenS K (tAsg te g) (sAsg f G) := by
  intro base O0 O σ H env o D S e P
  unfold sAsg at e
  cases k : f env with
  | none => simp [k] at e
  | some d =>
    cases k2 : G d env with
    | none => simp [k, k2] at e
    | some en =>
      simp only [k, k2, Option.bind_some, Option.map_some] at e
      cases e
      refine h base O0 O σ H env d S k _ fun v H1 x1 r => ?_
      exact hg base O0 O σ H1 env v d en (S.mono x1) r k2 _ fun σ2 s2 _ _ => P O σ2 H1 (vis_mono x1) s2
/-- x = a new list, which is to change -/
def sOwn (f : Env → Option (List PyData)) (i : Nat) : Env → Option Out := fun env => (f env).map fun ds => .nx (env.set i (.own ds))
theorem dens_own {i : Nat} (h : DenN K te fn) : DenS K (tAsg te (gName i)) (sOwn fn i) := by
  intro base O0 O σ H env o D S e P
  unfold sOwn at e
  cases k : fn env with
  | none => simp [k] at e
  | some ds =>
    simp only [k, Option.map_some] at e
    cases e
    exact h base O0 O σ H env ds S k _ fun p vs H1 hp x1 h1 r => P (hid O p) _ H1 (vis_hid hp x1) (S.setOwn hp x1 h1 r)
def sRet (f : Env → Option PyData) : Env → Option Out := fun env => (f env).map Out.rt
theorem dens_ret (h : DenP K te f) : DenS K (tRet te) (sRet f) := by
  intro base O0 O σ H env o D S e P
  unfold sRet at e
  cases k : f env with
  | none => simp [k] at e
  | some d =>
    simp only [k, Option.map_some] at e
    cases e
    refine h base O0 O σ H env d S k _ fun v H1 x1 r => ?_
    have S1 := S.mono x1
    exact P v H1 S1.ex ((vis_mono x1).trans S1.out) (r.mono S1.out)
/-- return x, x a list that was to change: all of its frame's are let go -/
def sRetO (i : Nat) : Env → Option Out := fun env => match env[i]? with
  | some (.own ds) => some (.rtn ds)
  | _ => none
theorem dens_reto {i : Nat} : DenS K (tRet (tVar i)) (sRetO i) := by
  intro base O0 O σ H env o D S e P
  unfold sRetO at e
  split at e
  · rename_i ds hi
    cases e
    obtain ⟨x, fp, hx, a, vs, rfl, _, oa, ba, h1, r⟩ := S.at_ hi
    have n0 : O0 a = false := by
      cases q : O0 a with
      | false => rfl
      | true => exact absurd ba (S.b0 a q)
    refine ⟨_, hx, P a vs H ba S.ex S.out h1 (r.mono fun b o hb => ?_)⟩
    have hb2 := S.out b o hb
    have nb : b ≠ a := fun z => by
      subst z
      unfold vis at hb
      rw [if_pos oa] at hb
      cases hb
    unfold vis at hb2 ⊢
    unfold hid
    by_cases q : O0 b = true
    · rw [if_pos q] at hb2
      cases hb2
    · have q' : O0 b = false := by simpa using q
      rw [if_neg q] at hb2
      rw [q']
      simpa [nb] using hb2
  · cases e
def sRetN (f : PL.Env → Option (List PyData)) : PL.Env → Option Out := fun env => (f env).map Out.rtn
theorem dens_retn (h : DenN K te fn) : DenS K (tRet te) (sRetN fn) := by
  intro base O0 O σ H env o D S e P
  unfold sRetN at e
  cases k : fn env with
  | none => simp [k] at e
  | some ds =>
    simp only [k, Option.map_some] at e
    cases e
    refine h base O0 O σ H env ds S k _ fun p vs H1 hp x1 h1 r => ?_
    have S1 := S.mono x1
    have bp : base p = none := S.ex.free hp
    refine P p vs H1 bp S1.ex ((vis_mono x1).trans S1.out) h1 (r.mono fun b o hb => ?_)
    have h2 := vis_le b o hb
    have nb : hid O p b = false := by
      cases z : hid O p b with
      | false => rfl
      | true =>
        unfold vis at hb
        rw [if_pos z] at hb
        cases hb
    refine vis_at ?_ h2
    unfold hid at nb ⊢
    rw [Bool.or_eq_false_iff] at nb ⊢
    refine ⟨?_, nb.2⟩
    cases z : O0 b with
    | false => rfl
    | true => rw [S.sub b z] at nb; cases nb.1
theorem dens_drop (h : DenP K te f) : DenS K (tDrop te) (fun env => (f env).map fun _ => .nx env) := by
  intro base O0 O σ H env o D S e P
  cases k : f env with
  | none => simp [k] at e
  | some d =>
    simp only [k, Option.map_some] at e
    cases e
    exact h base O0 O σ H env d S k _ fun v H1 x1 r => P O σ H1 (vis_mono x1) (S.mono x1)
def sIf (t : Env → Option Bool) (F F2 : Env → Option Out) : Env → Option Out := fun env => (t env).bind fun b => if b then F env else F2 env
theorem dens_if (ht : DenT K tt t) (h1 : DenS K ts F) (h2 : DenS K tu F2) : DenS K (tIfS tt ts tu) (sIf t F F2) := by
  intro base O0 O σ H env o D S e P
  unfold sIf at e
  cases k : t env with
  | none => simp [k] at e
  | some b =>
    simp only [k, Option.bind_some] at e
    refine ht base O0 O σ H env b S k _ fun H1 x1 => ?_
    cases b with
    | true =>
      show ts D σ H1
      exact h1 base O0 O σ H1 env o D (S.mono x1) (by simpa using e) (P.mono (vis_mono x1))
    | false =>
      show tu D σ H1
      exact h2 base O0 O σ H1 env o D (S.mono x1) (by simpa using e) (P.mono (vis_mono x1))
/-- xs.append(e) -/
def sApp (i : Nat) (f : Env → Option PyData) : Env → Option Out := fun env => match env[i]? with
  | some (.own ds) => (f env).bind fun d => if ds.length < 100000 then some (.nx (env.set i (.own (ds ++ [d])))) else none
  | _ => none
theorem dens_app {i : Nat} (h : DenP K te f) : DenS K (tDrop (tBM K "list" rAppend (tVar i) (tCons te tNil))) (sApp i f) := by
  intro base O0 O σ H env o D S e P
  unfold sApp at e
  split at e
  · rename_i ds hi
    cases k : f env with
    | none => simp [k] at e
    | some d =>
      simp only [k, Option.bind_some] at e
      split at e
      case isFalse => cases e
      cases e
      obtain ⟨x, fp, hx, a, vs, rfl, _, oa, ba, h1, r⟩ := S.at_ hi
      refine ⟨_, hx, Or.inl ⟨rfl, vs, SqL.of h1⟩, ?_⟩
      refine h base O0 O σ H env d S k _ fun v H1 x1 rv => ⟨a, vs, v, rfl, rfl, x1 _ _ h1, ?_, ?_⟩
      · rw [r.length]
        have := big 100000 (Nat.le_refl _)
        omega
      · obtain ⟨hv, S2⟩ := (S.mono x1).mut (vs := vs ++ [v]) (es := ds ++ [d]) hi hx ((r.mono (vis_mono x1)).append (.cons rv .nil))
        exact P O σ _ (by rw [hv]; exact vis_mono x1) S2
  · cases e
/-- xs.extend(e), e a list -/
def sExt (i : Nat) (f : Env → Option PyData) : Env → Option Out := fun env => match env[i]? with
  | some (.own ds) => (f env).bind fun d => (asL d).bind fun es => if ds.length + es.length ≤ 100000 then some (.nx (env.set i (.own (ds ++ es)))) else none
  | _ => none
theorem dens_ext {i : Nat} (h : DenP K te f) : DenS K (tDrop (tBM K "list" rExtend (tVar i) (tCons te tNil))) (sExt i f) := by
  intro base O0 O σ H env o D S e P
  unfold sExt at e
  split at e
  · rename_i ds hi
    cases k : f env with
    | none => simp [k] at e
    | some d =>
      simp only [k, Option.bind_some] at e
      cases k2 : asL d with
      | none => simp [k2] at e
      | some es =>
        simp only [k2, Option.bind_some] at e
        split at e
        case isFalse => cases e
        rename_i hz
        cases e
        obtain ⟨x, fp, hx, a, vs, rfl, _, oa, ba, h1, r⟩ := S.at_ hi
        refine ⟨_, hx, Or.inl ⟨rfl, vs, SqL.of h1⟩, ?_⟩
        refine h base O0 O σ H env d S k _ fun v H1 x1 rv => ?_
        obtain ⟨b, ws, rfl, h2, r2⟩ := asL_opd (K := K) (O := fun _ => false) (.inl (rv.mono vis_no)) k2
        refine ⟨a, b, vs, ws, rfl, rfl, x1 _ _ h1, vis_le _ _ h2, ?_, ?_⟩
        · rw [r.length, r2.length]
          exact big _ hz
        · obtain ⟨hv, S2⟩ := (S.mono x1).mut (vs := vs ++ ws) (es := ds ++ es) hi hx ((r.mono (vis_mono x1)).append (r2.mono vis_le))
          exact P O σ _ (by rw [hv]; exact vis_mono x1) S2
  · cases e
/-- a list that was to change stays as it is from here on -/
def frE (i : Nat) (env : Env) : Option Env := match env[i]? with
  | some (.own ds) => some (env.set i (.sh (.list ds)))
  | _ => none
theorem Sat.free {i : Nat} {e2 : PL.Env} (S : Sat K base O0 O σ H env) (h : frE i env = some e2) : ∃ O', Ex (vis O H) (vis O' H) ∧ Sat K base O0 O' σ H e2 := by
  unfold frE at h
  split at h
  · rename_i ds hi
    cases h
    exact S.let_ hi
  · cases h
def sFree (i : Nat) (F : Env → Option Out) : Env → Option Out := fun env => (frE i env).bind F
theorem dens_free {i : Nat} (h : DenS K ts F) : DenS K ts (sFree i F) := by
  intro base O0 O σ H env o D S e P
  unfold sFree at e
  cases k : frE i env with
  | none => simp [k] at e
  | some e2 =>
    simp only [k, Option.bind_some] at e
    obtain ⟨O', hv, S2⟩ := S.free k
    exact h base O0 O' σ H e2 o D S2 e (P.mono hv)
/-! ### for -/
def fGo (G : PyData → Env → Option Env) (F : Env → Option Out) : List PyData → Env → Option Out
  | [], env => some (.nx env)
  | x :: xs, env => (G x env).bind fun e1 => (F e1).bind fun
    | .nx e => fGo G F xs e
    | .ct e => fGo G F xs e
    | .br e => some (.nx e)
    | .rt d => some (.rt d)
    | .rtn ds => some (.rtn ds)
def sFor (fi : Env → Option (List PyData)) (G : PyData → Env → Option Env) (F : Env → Option Out) : Env → Option Out := fun env => (fi env).bind fun xs => fGo G F xs env
theorem dens_for {wi : TI} {g : TG} {S0 : List Nat} {fi : Env → Option (List PyData)} {G : PyData → Env → Option Env} (hi : DenI K wi fi) (hg : DenG K S0 g G) (hb : DenS K ts F) : DenS K (tFor wi g ts) (sFor fi G F) := by
  intro base O0 O σ H env o D S e P
  unfold sFor at e
  cases k : fi env with
  | none => simp [k] at e
  | some xs =>
    simp only [k, Option.bind_some] at e
    refine hi base O0 O σ H env xs S k _ fun J H1 x1 it => ?_
    refine ⟨fun i m σ' H' => ∃ O' en, Ex (vis O H1) (vis O' H') ∧ Sat K base O0 O' σ' H' en ∧ fGo G F (xs.drop i) en = some o ∧ m = xs.length - i, ⟨_, O, env, Ex.refl _, S.mono x1, e, rfl⟩, fun i m σ' H' hw => ?_⟩
    obtain ⟨O', en, y1, S1, eq, rfl⟩ := hw
    have itH := it O' H' S1.all (y1.trans vis_le) y1
    have P1 : Post K base O0 (vis O' H') D o := P.mono ((vis_mono x1).trans y1)
    by_cases hlt : i < xs.length
    · refine .inr ?_
      obtain ⟨go, yl⟩ := itH.1 i _ (List.getElem?_eq_getElem hlt)
      rw [List.drop_eq_getElem_cons hlt] at eq
      unfold fGo at eq
      cases kg : G xs[i] en with
      | none => simp [kg] at eq
      | some e2 =>
        simp only [kg, Option.bind_some] at eq
        cases kf : F e2 with
        | none => simp [kf] at eq
        | some o2 =>
          simp only [kf, Option.bind_some] at eq
          refine ⟨go, fun σ2 H2 => ∃ O2 e3, Ex (vis O H1) (vis O2 H2) ∧ Sat K base O0 O2 σ2 H2 e3 ∧ fGo G F (xs.drop (i + 1)) e3 = some o, fun σ2 H2 h => ?_, fun x H2 y => ?_⟩
          · obtain ⟨O2, e3, a1, a2, a3⟩ := h
            exact ⟨xs.length - (i + 1), by omega, O2, e3, a1, a2, a3, rfl⟩
          · obtain ⟨xe, rx⟩ := yl x H2 y
            refine hg base O0 O' σ' H2 en x xs[i] e2 (S1.mono xe) rx kg _ fun σ2 s2 _ _ => ?_
            refine hb base O0 O' σ2 H2 e2 o2 _ s2 kf ?_
            have P2 := P1.mono (vis_mono xe)
            cases o2 with
            | nx e3 => exact fun O2 σ3 H3 z S3 => ⟨O2, e3, (y1.trans (vis_mono xe)).trans z, S3, eq⟩
            | ct e3 => exact fun O2 σ3 H3 z S3 => ⟨O2, e3, (y1.trans (vis_mono xe)).trans z, S3, eq⟩
            | br e3 => cases eq; exact P2
            | rt d => cases eq; exact P2
            | rtn ds => cases eq; exact P2
    · refine .inl ⟨itH.2 i (by omega), ?_⟩
      rw [List.drop_eq_nil_of_le (by omega)] at eq
      cases eq
      exact P1 O' σ' H' (Ex.refl _) S1
end

/-! ### a def's promise: it gives f of its arguments -/
def spD (K : PySem.W.Frag) (n : Nat) (f : List PyData → Option PyData) : Sp := fun vs H Q _ => ∃ (O : Hid) (ds : List PyData) (d : PyData), vs.length = n ∧ (∀ a, O a = true → H a ≠ none) ∧ RpAll K (vis O H) vs ds ∧ f ds = some d ∧ ∀ v H', Ex H H' → Ex (vis O H) (vis O H') → Rp K (vis O H') v d → Q v H'
def fEnv (n : Nat) (ds : List PyData) : Env := ds.map .sh ++ List.replicate (n - ds.length) .un
def outD : Option Out → Option PyData
  | some (.rt d) => some d
  | some (.nx _) => some .none
  | some (.rtn ds) => some (.list ds)
  | _ => none
/-- what a body gives of its arguments; n: how many names there are -/
def fnD (n : Nat) (F : Env → Option Out) : List PyData → Option PyData := fun ds => outD (F (fEnv n ds))
section
variable {K : PySem.W.Frag}
theorem sat_start {O : Hid} {H : Hp} {vs : List V} {ds : List PyData} {N : List Str} (al : ∀ a, O a = true → H a ≠ none) (r : RpAll K (vis O H) vs ds) (hn : vs.length ≤ N.length) : Sat K H O O (L2.start N vs) H (fEnv N.length ds) := by
  have hl := r.length
  refine ⟨fun _ => [], Ex.refl _, fun a h => .inl h, al, fun a h => h, al, ?_, fun i x s h1 h2 => ?_, fun _ _ => rfl, fun _ _ _ _ h _ => nomatch h⟩
  · unfold L2.start fEnv
    rw [List.length_append, List.length_append, List.length_map, List.length_map, List.length_replicate, List.length_replicate, hl]
  · unfold L2.start at h1
    unfold fEnv at h2
    by_cases hi : i < vs.length
    · rw [List.getElem?_append_left (by rw [List.length_map]; exact hi), List.getElem?_map] at h1
      rw [List.getElem?_append_left (by rw [List.length_map, ← hl]; exact hi), List.getElem?_map] at h2
      cases q : ds[i]? with
      | none => rw [q] at h2; cases h2
      | some d =>
        rw [q] at h2
        cases h2
        obtain ⟨v, hv, rv⟩ := r.get q
        rw [hv] at h1
        cases h1
        exact ⟨⟨v, rfl, rv⟩, rfl⟩
    · rw [List.getElem?_append_right (by rw [List.length_map]; omega), List.getElem?_replicate] at h1
      rw [List.getElem?_append_right (by rw [List.length_map, ← hl]; omega), List.getElem?_replicate] at h2
      split at h1
      · cases h1
        split at h2
        · cases h2
          exact ⟨rfl, rfl⟩
        · cases h2
      · cases h1
/-- a def of which a plain function tells all -/
theorem fn_den {P : Program} {w : World} {mg : Str → Option Value} {base : Heap} {x qual : Str} {st : Stmt} {f : Addr} {fd : FuncData} {N ps : List Str} {k : Nat} {F : Env → Option Out} (Fu : Fun K x qual st f fd) (S : FnScope N ps (defScope st)) (hn : ps.length ≤ N.length)
    (hb : ∀ (cdv : Value) (A : Around) (outer : List PySem.Env) (s : Shared) (H : Hp) (E : XK), Room k (A.deeper (envOfC qual (defScope st) s.heap.objs.size f cdv)) →
      ∃ t, PSs (cxOf CX0 P w K mg base N qual (defScope st) f cdv A outer s H E).nox (defBody st) t ∧ DenS K t F) : FnOk P w K mg base CX0 (k + 1) f fd ps (spD K ps.length (fnD N.length F)) := by
  refine Fu.ok S (fun vs H Q E h => ?_) (fun cdv A outer s H vs Q E hr h => ?_)
  · obtain ⟨O, ds, d, hl, _⟩ := h
    exact hl
  · obtain ⟨O, ds, d, hl, al, r, hf, q⟩ := h
    obtain ⟨t, pt, dt⟩ := hb cdv A outer s H E hr
    refine ⟨t, pt, ?_⟩
    unfold fnD at hf
    cases k1 : F (fEnv N.length ds) with
    | none => rw [k1] at hf; cases hf
    | some o =>
      rw [k1] at hf
      refine dt H O O (L2.start N vs) H (fEnv N.length ds) o _ (sat_start al r (by omega)) k1 ?_
      cases o with
      | nx e =>
        cases hf
        exact fun O2 σ2 H2 x S2 => q _ H2 S2.ex (x.trans S2.out) .non
      | br e => cases hf
      | ct e => cases hf
      | rt d =>
        cases hf
        exact fun v H2 x y r2 => q v H2 x y r2
      | rtn ds2 =>
        cases hf
        refine fun p vs2 H2 b x y g r2 => q _ H2 x y (.lst (vis_at ?_ g) (r2.mono hid_le))
        cases z : O p with
        | false => rfl
        | true => exact absurd b (al p z)
/-- such a def called -/
theorem den_call {n : Nat} {g : List PyData → Option PyData} {E : XK} {tr : TA} {fr : Env → Option (List PyData)} (h : DenAP K tr fr) : DenP K (tCall (spD K n g) [] E tr) (eA (fun ds => if ds.length = n then g ds else none) fr) := by
  intro base O0 O σ H env d S e Q q
  unfold eA at e
  cases k1 : fr env with
  | none => simp [k1] at e
  | some xs =>
    simp only [k1, Option.bind_some] at e
    split at e
    case isFalse => cases e
    rename_i hn
    refine h base O0 O σ H env xs S k1 _ fun vs H1 x1 r => ?_
    show spD K n g (vs ++ []) H1 Q E
    rw [List.append_nil]
    exact ⟨O, xs, d, by rw [r.length]; exact hn, (S.mono x1).all, r, e, fun v H2 x2 _ r2 => q v H2 (x1.trans x2) r2⟩
/-- .. that hands back a new list -/
def spN (K : PySem.W.Frag) (n : Nat) (f : List PyData → Option (List PyData)) : Sp := fun vs H Q _ => ∃ (O : Hid) (ds es : List PyData), vs.length = n ∧ (∀ a, O a = true → H a ≠ none) ∧ RpAll K (vis O H) vs ds ∧ f ds = some es ∧ ∀ p ws H', H p = none → Ex H H' → H' p = some (.lst ws) → RpAll K (vis (hid O p) H') ws es → Q (.ref p) H'
def fnN (n : Nat) (F : PL.Env → Option Out) : List PyData → Option (List PyData) := fun ds => match F (fEnv n ds) with
  | some (.rtn es) => some es
  | _ => none
theorem fnN_fnD {n : Nat} {F : PL.Env → Option Out} {ds es : List PyData} (h : fnN n F ds = some es) : fnD n F ds = some (.list es) := by
  unfold fnN at h
  unfold fnD outD
  split at h
  · rename_i e
    rw [e]
    cases h
    rfl
  · cases h
theorem fn_denN {P : Program} {w : World} {mg : Str → Option Value} {base : Heap} {x qual : Str} {st : Stmt} {f : Addr} {fd : FuncData} {N ps : List Str} {k : Nat} {F : PL.Env → Option Out} (Fu : Fun K x qual st f fd) (S : FnScope N ps (defScope st)) (hn : ps.length ≤ N.length)
    (hb : ∀ (cdv : Value) (A : Around) (outer : List PySem.Env) (s : Shared) (H : Hp) (E : XK), Room k (A.deeper (envOfC qual (defScope st) s.heap.objs.size f cdv)) →
      ∃ t, PSs (cxOf CX0 P w K mg base N qual (defScope st) f cdv A outer s H E).nox (defBody st) t ∧ DenS K t F) : FnOk P w K mg base CX0 (k + 1) f fd ps (spN K ps.length (fnN N.length F)) := by
  refine Fu.ok S (fun vs H Q E h => ?_) (fun cdv A outer s H vs Q E hr h => ?_)
  · obtain ⟨O, ds, d, hl, _⟩ := h
    exact hl
  · obtain ⟨O, ds, es, hl, al, r, hf, q⟩ := h
    obtain ⟨t, pt, dt⟩ := hb cdv A outer s H E hr
    refine ⟨t, pt, ?_⟩
    unfold fnN at hf
    split at hf
    · rename_i es2 k1
      cases hf
      exact dt H O O (L2.start N vs) H (fEnv N.length ds) _ _ (sat_start al r (by omega)) k1 fun p vs2 H2 b x y g r2 => q p vs2 H2 b x g r2
    · cases hf
theorem den_callN {n : Nat} {g : List PyData → Option (List PyData)} {E : XK} {tr : TA} {fr : PL.Env → Option (List PyData)} (h : DenAP K tr fr) : DenN K (tCall (spN K n g) [] E tr) (fun env => (fr env).bind fun ds => if ds.length = n then g ds else none) := by
  intro base O0 O σ H env d S e Q q
  cases k1 : fr env with
  | none => simp [k1] at e
  | some xs =>
    simp only [k1, Option.bind_some] at e
    split at e
    case isFalse => cases e
    rename_i hn
    refine h base O0 O σ H env xs S k1 _ fun vs H1 x1 r => ?_
    show spN K n g (vs ++ []) H1 Q E
    rw [List.append_nil]
    exact ⟨O, xs, d, by rw [r.length]; exact hn, (S.mono x1).all, r, e, fun p ws H2 hp x2 g2 r2 => q p ws H2 (x1.free hp) (x1.trans x2) g2 r2⟩
end
end PL
namespace PL
open PySem L2 PySem.Spec PyProof.Rows

/-! ### a piece of the program and what it gives -/
structure EP (K : PySem.W.Frag) (X : Cx) (e : Expr) (t : TE) (f : Env → Option PyData) : Prop where
  pe : PE X e t
  de : DenP K t f
structure EO (K : PySem.W.Frag) (X : Cx) (e : Expr) (t : TE) (f : Env → Option PyData) : Prop where
  pe : PE X e t
  de : Den K t f
structure EN (K : PySem.W.Frag) (X : Cx) (e : Expr) (t : TE) (f : Env → Option (List PyData)) : Prop where
  pe : PE X e t
  de : DenN K t f
structure ET (K : PySem.W.Frag) (X : Cx) (e : Expr) (t : TT) (f : Env → Option Bool) : Prop where
  pe : PT X e t
  de : DenT K t f
structure EA (K : PySem.W.Frag) (X : Cx) (es : List Expr) (t : TA) (f : Env → Option (List PyData)) : Prop where
  pe : PA X es t
  de : DenA K t f
structure EB (K : PySem.W.Frag) (X : Cx) (es : List Expr) (t : TA) (f : Env → Option (List PyData)) : Prop where
  pe : PA X es t
  de : DenAP K t f
structure EI (K : PySem.W.Frag) (X : Cx) (tg e : Expr) (t : TI) (f : Env → Option (List PyData)) : Prop where
  pe : PI X tg e t
  de : DenI K t f
structure EJ (K : PySem.W.Frag) (X : Cx) (tg e : Expr) (t : TI) (f : Env → Option (List PyData)) : Prop where
  pe : PI X tg e t
  de : DenIO K t f
structure EG (K : PySem.W.Frag) (X : Cx) (S : List Nat) (e : Expr) (g : TG) (G : PyData → Env → Option Env) : Prop where
  pe : PG X e g
  de : DenG K S g G
structure EGs (K : PySem.W.Frag) (X : Cx) (S : List Nat) (e : List Expr) (g : TGs) (G : List PyData → Env → Option Env) : Prop where
  pe : PGs X e g
  de : DenGs K S g G
structure ES (K : PySem.W.Frag) (X : Cx) (st : Stmt) (t : TS) (F : Env → Option Out) : Prop where
  pe : PS X st t
  de : DenS K t F
structure EK (K : PySem.W.Frag) (X : Cx) (st : List Stmt) (t : TS) (F : Env → Option Out) : Prop where
  pe : PSs X st t
  de : DenS K t F
structure EQ (K : PySem.W.Frag) (X : Cx) (e : Option Expr) (t : TO) (f : Env → Option (Option Int)) : Prop where
  pe : PO X e t
  de : DenO K t f
section
variable {K : PySem.W.Frag} {X : Cx} {e a b c : Expr} {te ta tb : TE} {f fa fb : Env → Option PyData} {fn : Env → Option (List PyData)} {pos : Pos}
theorem EP.o (h : EP K X e te f) : EO K X e te f := ⟨h.pe, h.de.o⟩
theorem EN.p (h : EN K X e te fn) : EP K X e te (eL fn) := ⟨h.pe, h.de.p⟩
theorem EN.o (h : EN K X e te fn) : EO K X e te (eL fn) := h.p.o
theorem vP (i : Nat) {x : Str} (hN : X.N[i]? = some x := by rfl) (hv : Vis X.env.scope x := by first | exact Or.inl rfl | exact Or.inr (Or.inl rfl) | exact Or.inr (Or.inr rfl)) (hd : (x == ("__debug__" : Str)) = false := by decide)
    (hcd : (x == ("__classdict__" : Str)) = false := by decide) : EP K X (.Name x pos) (tVar i) (eVar i) := ⟨pe_var hN hv hd hcd, denP_var⟩
theorem vO (i : Nat) {x : Str} (hN : X.N[i]? = some x := by rfl) (hv : Vis X.env.scope x := by first | exact Or.inl rfl | exact Or.inr (Or.inl rfl) | exact Or.inr (Or.inr rfl)) (hd : (x == ("__debug__" : Str)) = false := by decide)
    (hcd : (x == ("__classdict__" : Str)) = false := by decide) : EO K X (.Name x pos) (tVar i) (eVarO i) := ⟨pe_var hN hv hd hcd, den_var⟩
theorem cI {i : Int} {j} : EP K X (.Constant (.int i) j pos) (tC (.int i)) (eC (.int i)) := ⟨pe_int, den_int⟩
theorem cB {i : Bool} {j} : EP K X (.Constant (.bool i) j pos) (tC (.bl i)) (eC (.bool i)) := ⟨pe_bl, den_bl⟩
theorem cN {j} : EP K X (.Constant .none j pos) (tC .non) (eC .none) := ⟨pe_non, den_non⟩
theorem cS {i : Str} {j} : EP K X (.Constant (.str i) j pos) (tC (.str i)) (eC (.str i)) := ⟨pe_str, den_str⟩
theorem op_or {g : Value → Value → Sem Value} {r r' : R2} (h : OpR X g r) (h' : OpR X g r') : OpR X g (fun x y H Q => r x y H Q ∨ r' x y H Q) := by
  intro pins s σ H x y v u Q I rx ry q
  rcases q with q | q
  · exact h pins s σ H x y v u Q I rx ry q
  · exact h' pins s σ H x y v u Q I rx ry q
theorem bAdd (ha : EO K X a ta fa) (hb : EO K X b tb fb) : EP K X (.BinOp a .Add b pos) (tOp rAddU ta tb) (e2 gAdd fa fb) := ⟨pe_op (op_or op_add op_add_str) ha.pe hb.pe, den_op ok_add ha.de hb.de⟩
theorem bSub (ha : EO K X a ta fa) (hb : EO K X b tb fb) : EP K X (.BinOp a .Sub b pos) (tOp (rI0 fun i j => .int (i - j)) ta tb) (e2 (gI (· - ·)) fa fb) := ⟨pe_op op_sub ha.pe hb.pe, den_op ok_I ha.de hb.de⟩
theorem bMul (ha : EO K X a ta fa) (hb : EO K X b tb fb) : EP K X (.BinOp a .Mult b pos) (tOp (rI CMul fun i j => .int (i * j)) ta tb) (e2 (gIC cMul (· * ·)) fa fb) := ⟨pe_op op_mul ha.pe hb.pe, den_op (ok_IC c_mul) ha.de hb.de⟩
theorem bDiv (ha : EO K X a ta fa) (hb : EO K X b tb fb) : EP K X (.BinOp a .FloorDiv b pos) (tOp (rI CDiv fun i j => .int (i / j)) ta tb) (e2 (gIC cDiv (· / ·)) fa fb) := ⟨pe_op op_fdiv ha.pe hb.pe, den_op (ok_IC c_div) ha.de hb.de⟩
theorem bMod (ha : EO K X a ta fa) (hb : EO K X b tb fb) : EP K X (.BinOp a .Mod b pos) (tOp (rI (fun _ j => 0 < j) fun i j => .int (i % j)) ta tb) (e2 (gIC cMod (· % ·)) fa fb) := ⟨pe_op op_mod ha.pe hb.pe, den_op (ok_IC c_mod) ha.de hb.de⟩
theorem uNeg (ha : EO K X a ta fa) : EP K X (.UnaryOp .USub a pos) (tUn (rU fun i => .int (-i)) ta) (e1 gNeg fa) := ⟨pe_un un_neg ha.pe, den_neg ha.de⟩
/-- a comparison: its operator's rule, what it is of data, that its right side has no mark -/
theorem cmp {op : CmpOp} {r : R2} {g : PyData → PyData → Option PyData} (ho : OpR X (compareOp op) r ∧ Ok2 K r g) (ha : EO K X a ta fa) (hb : EO K X b tb fb) (hm : behindInMarks op b = false := by rfl) (hK : X.K = K := by rfl) : EP K X (.Compare a [op] [b] pos) (tOp r ta tb) (e2 g fa fb) := by
  subst hK
  exact ⟨pe_cmpR ho.1 ha.pe hb.pe hm, den_op ho.2 ha.de hb.de⟩
theorem tcmp {op : CmpOp} {r : R2} {g : PyData → PyData → Option PyData} (ho : OpR X (compareOp op) r ∧ Ok2 K r g) (ha : EO K X a ta fa) (hb : EO K X b tb fb) (hm : behindInMarks op b = false := by rfl) (hK : X.K = K := by rfl) : ET K X (.Compare a [op] [b] pos) (tTest (tOp r ta tb)) (tE (e2 g fa fb)) := by
  subst hK
  exact ⟨pt_cmpR ho.1 ha.pe hb.pe hm, den_test (den_op ho.2 ha.de hb.de).o⟩
theorem kLt (hK : X.K = K := by rfl) : OpR X (compareOp .Lt) (rI0 fun i j => .bl (decide (i < j))) ∧ Ok2 K (rI0 fun i j => .bl (decide (i < j))) (gB fun i j => decide (i < j)) := by
  subst hK
  exact ⟨op_lt, ok_B⟩
theorem kLe (hK : X.K = K := by rfl) : OpR X (compareOp .LtE) (rI0 fun i j => .bl (decide (i ≤ j))) ∧ Ok2 K (rI0 fun i j => .bl (decide (i ≤ j))) (gB fun i j => decide (i ≤ j)) := by
  subst hK
  exact ⟨op_le, ok_B⟩
theorem kGt (hK : X.K = K := by rfl) : OpR X (compareOp .Gt) (rI0 fun i j => .bl (decide (j < i))) ∧ Ok2 K (rI0 fun i j => .bl (decide (j < i))) (gB fun i j => decide (j < i)) := by
  subst hK
  exact ⟨op_gt, ok_B⟩
theorem kGe (hK : X.K = K := by rfl) : OpR X (compareOp .GtE) (rI0 fun i j => .bl (decide (j ≤ i))) ∧ Ok2 K (rI0 fun i j => .bl (decide (j ≤ i))) (gB fun i j => decide (j ≤ i)) := by
  subst hK
  exact ⟨op_ge, ok_B⟩
theorem kEq (hu : X.A.units + 65 < cLine) (hK : X.K = K := by rfl) : OpR X (compareOp .Eq) (rEqD K) ∧ Ok2 K (rEqD K) gEq := by
  subst hK
  exact ⟨op_eqD (by omega), ok_eq⟩
theorem kNe (hu : X.A.units + 65 < cLine) (hK : X.K = K := by rfl) : OpR X (compareOp .NotEq) (rNeD K) ∧ Ok2 K (rNeD K) gNe := by
  subst hK
  exact ⟨op_neD (by omega), ok_ne⟩
theorem kInL (hu : X.A.units + 65 < cLine) (hK : X.K = K := by rfl) : OpR X (compareOp .In) (rInD K) ∧ Ok2 K (rInD K) (gInL false) := by
  subst hK
  exact ⟨op_inD hu, ok_inL⟩
theorem kNiL (hu : X.A.units + 65 < cLine) (hK : X.K = K := by rfl) : OpR X (compareOp .NotIn) (rNotInD K) ∧ Ok2 K (rNotInD K) (gInL true) := by
  subst hK
  exact ⟨op_notInD hu, ok_niL⟩
theorem kInT (hK : X.K = K := by rfl) : OpR X (compareOp .In) (rIn K false) ∧ Ok2 K (rIn K false) (gInT false) := by
  subst hK
  exact ⟨op_in_seq, ok_inT⟩
theorem kNiT (hK : X.K = K := by rfl) : OpR X (compareOp .NotIn) (rIn K true) ∧ Ok2 K (rIn K true) (gInT true) := by
  subst hK
  exact ⟨op_notIn_seq, ok_niT⟩
theorem kInS (hK : X.K = K := by rfl) : OpR X (compareOp .In) rInS1 ∧ Ok2 K rInS1 (gInS false) := by
  subst hK
  exact ⟨op_in_sign, ok_inS⟩
theorem kNiS (hK : X.K = K := by rfl) : OpR X (compareOp .NotIn) rNiS1 ∧ Ok2 K rNiS1 (gInS true) := by
  subst hK
  exact ⟨op_notIn_sign, ok_niS⟩
theorem cIsN {k : Nat} {q : Pos} (ha : EO K X a ta fa) : EP K X (.Compare a [.Is] [.Constant .none k q] pos) (tOp (fun x y H Q => y = .non ∧ Q (.bl (decide (x = .non))) H) ta (tC .non)) (e1 (gIsN false) fa) := ⟨pe_cmpR op_isN ha.pe pe_non (nomark _), den_isN ha.de⟩
theorem cNotN {k : Nat} {q : Pos} (ha : EO K X a ta fa) : EP K X (.Compare a [.IsNot] [.Constant .none k q] pos) (tOp (fun x y H Q => y = .non ∧ Q (.bl (!decide (x = .non))) H) ta (tC .non)) (e1 (gIsN true) fa) := ⟨pe_cmpR op_notN ha.pe pe_non (nomark _), den_notN ha.de⟩
theorem tIsN_ {k : Nat} {q : Pos} (ha : EO K X a ta fa) : ET K X (.Compare a [.Is] [.Constant .none k q] pos) (tTest (tOp (fun x y H Q => y = .non ∧ Q (.bl (decide (x = .non))) H) ta (tC .non))) (tE (e1 (gIsN false) fa)) := ⟨pt_cmpR op_isN ha.pe pe_non (nomark _), den_test (den_isN ha.de).o⟩
theorem tNotN_ {k : Nat} {q : Pos} (ha : EO K X a ta fa) : ET K X (.Compare a [.IsNot] [.Constant .none k q] pos) (tTest (tOp (fun x y H Q => y = .non ∧ Q (.bl (!decide (x = .non))) H) ta (tC .non))) (tE (e1 (gIsN true) fa)) := ⟨pt_cmpR op_notN ha.pe pe_non (nomark _), den_test (den_notN ha.de).o⟩
/-! ### tests -/
variable {tA' tB' : TT} {t u : Env → Option Bool}
theorem tVal (h : EO K X e te f) (he : ∀ whole, isTrue e X.env whole = (do let v ← whole; standAt e.pos; holding [v] (truthy v)) := by intro _; rfl) : ET K X e (tB te) (tE f) := ⟨pt_val h.pe he, den_val h.de⟩
/-- chains of and, or -/
structure EW (K : PySem.W.Frag) (X : Cx) (e : Expr) (t : TT) (f : Env → Option Bool) : Prop where
  pe : PW X e t
  de : DenT K t f
theorem EW.tt (h : EW K X e tA' t) : ET K X e tA' t := ⟨h.pe.pt, h.de⟩
theorem wA1 (h : ET K X a tA' t) : EW K X (.BoolOp .And [a] pos) tA' t := ⟨pw_and1 h.pe, h.de⟩
theorem wO1 (h : ET K X a tA' t) : EW K X (.BoolOp .Or [a] pos) tA' t := ⟨pw_or1 h.pe, h.de⟩
theorem wA {rest : List Expr} (h : ET K X a tA' t) (k : EW K X (.BoolOp .And (b :: rest) pos) tB' u) : EW K X (.BoolOp .And (a :: b :: rest) pos) (tAnd tA' tB') (tA t u) := ⟨pw_and h.pe k.pe, den_and h.de k.de⟩
theorem wO {rest : List Expr} (h : ET K X a tA' t) (k : EW K X (.BoolOp .Or (b :: rest) pos) tB' u) : EW K X (.BoolOp .Or (a :: b :: rest) pos) (tOr tA' tB') (tO t u) := ⟨pw_or h.pe k.pe, den_or h.de k.de⟩
theorem tNot_ (h : ET K X a tA' t) : ET K X (.UnaryOp .Not a pos) (tNot tA') (tN t) := ⟨pt_not h.pe, den_not h.de⟩
theorem vOne {op} (h : EP K X a ta fa) : EP K X (.BoolOp op [a] pos) ta fa := ⟨pe_one h.pe, h.de⟩
theorem vAnd {rest : List Expr} (ha : EO K X a ta fa) (hb : EP K X (.BoolOp .And (b :: rest) pos) tb fb) : EP K X (.BoolOp .And (a :: b :: rest) pos) (tAndV ta tb) (eAndB fa fb) := ⟨pe_and ha.pe hb.pe, den_andV ha.de hb.de⟩
theorem vOr {rest : List Expr} (ha : EO K X a ta fa) (hb : EP K X (.BoolOp .Or (b :: rest) pos) tb fb) : EP K X (.BoolOp .Or (a :: b :: rest) pos) (tOrV ta tb) (eOrB fa fb) := ⟨pe_or ha.pe hb.pe, den_orV ha.de hb.de⟩
theorem vNot (h : EO K X a ta fa) : EP K X (.UnaryOp .Not a pos) (tNotV ta) (eNotB fa) := ⟨pe_not h.pe, den_notV h.de⟩
theorem vIf (h : ET K X c tA' t) (ha : EP K X a ta fa) (hb : EP K X b tb fb) : EP K X (.IfExp c a b pos) (tIf tA' ta tb) (eIf t fa fb) := ⟨pe_ifExp h.pe ha.pe hb.pe, den_if h.de ha.de hb.de⟩
/-! ### arguments -/
variable {es : List Expr} {tr : TA} {fr : Env → Option (List PyData)}
theorem xN : EA K X [] tNil aNil := ⟨pa_nil, den_anil⟩
theorem xC (h : EO K X e te f) (hr : EA K X es tr fr) (hs : starEach (e :: es) X.env = (false, eval e X.env) :: starEach es X.env := by rfl) : EA K X (e :: es) (tCons te tr) (aCons f fr) := ⟨pa_cons h.pe hr.pe hs, den_acons h.de hr.de⟩
theorem yN : EB K X [] tNil aNil := ⟨pa_nil, den_apnil⟩
theorem yC (h : EP K X e te f) (hr : EB K X es tr fr) (hs : starEach (e :: es) X.env = (false, eval e X.env) :: starEach es X.env := by rfl) : EB K X (e :: es) (tCons te tr) (aCons f fr) := ⟨pa_cons h.pe hr.pe hs, den_apcons h.de hr.de⟩
theorem dTup {x1} (h : EB K X es tr fr) : EP K X (.Tuple es x1 pos) (tTup tr) (eTup fr) := ⟨pe_tup h.pe, den_tup h.de⟩
theorem dLst (h : EB K X es tr fr) : EN K X (.List es pos) (tLst tr) (nLst fr) := ⟨pe_lst h.pe, den_lst h.de⟩
/-! ### parts -/
theorem qN : EQ K X none tNoPart oNone := ⟨po_none, den_onone⟩
theorem qS (h : EO K X e te f) : EQ K X (some e) (tPart te) (oSome f) := ⟨po_some h.pe, den_osome h.de⟩
variable {lo hi : Option Expr} {tl th : TO} {fl fh : Env → Option (Option Int)} {p2 : Pos}
theorem slL (h : EO K X e te f) (hl : EQ K X lo tl fl) (hh : EQ K X hi th fh) (hK : X.K = K := by rfl) : EN K X (.Subscript e (.Slice lo hi none p2) pos) (tSl (rSlL K) te tl th) (nSl f fl fh) := by
  subst hK
  exact ⟨pe_slice sl_list h.pe hl.pe hh.pe, den_slL h.de hl.de hh.de⟩
theorem slS (h : EO K X e te f) (hl : EQ K X lo tl fl) (hh : EQ K X hi th fh) : EP K X (.Subscript e (.Slice lo hi none p2) pos) (tSl rSlS te tl th) (eSlS f fl fh) := ⟨pe_slice sl_str h.pe hl.pe hh.pe, den_slS h.de hl.de hh.de⟩
theorem slT (h : EO K X e te f) (hl : EQ K X lo tl fl) (hh : EQ K X hi th fh) (hK : X.K = K := by rfl) : EP K X (.Subscript e (.Slice lo hi none p2) pos) (tSl (rSlA K) te tl th) (eSlT f fl fh) := by
  subst hK
  exact ⟨pe_slice sl_tupA h.pe hl.pe hh.pe, den_slT h.de hl.de hh.de⟩
theorem slR {k : Nat} {p1 p3 p4 : Pos} (h : EO K X e te f) (hK : X.K = K := by rfl) : EN K X (.Subscript e (.Slice none none (some (.UnaryOp .USub (.Constant (.int 1) k p1) p3)) p4) pos) (tRevL K te) (nRev f) := by
  subst hK
  exact ⟨pe_revL h.pe, den_rev h.de⟩
theorem ixx (ha : EO K X a ta fa) (hb : EO K X b tb fb) (hs : PlainIx b := by exact fun _ _ => rfl) (hK : X.K = K := by rfl) : EP K X (.Subscript a b pos) (tOp (rIx K) ta tb) (e2 gIx fa fb) := by
  subst hK
  exact ⟨pe_ix ix_seq ha.pe hb.pe hs, den_op ok_ix ha.de hb.de⟩
theorem bCat (ha : EO K X a ta fa) (hb : EO K X b tb fb) : EN K X (.BinOp a .Add b pos) (tOp rCat ta tb) (nCat fa fb) := ⟨pe_op op_cat ha.pe hb.pe, den_cat ha.de hb.de⟩
theorem bRep (ha : EO K X a ta fa) (hb : EO K X b tb fb) : EN K X (.BinOp a .Mult b pos) (tOp rRep ta tb) (nRep fa fb) := ⟨pe_op op_rep ha.pe hb.pe, den_rep ha.de hb.de⟩
/-! ### calls -/
variable {p : Pos}
theorem fLen (hm : X.mg "len" = none) (hg : Gl X "len" := by rfl) (ha : EA K X (e :: es) tr fr) (he : starEach (e :: es) X.env = (false, eval e X.env) :: starEach es X.env := by rfl) (hpl : (backTo pos (starEach es X.env)).any (·.1) = false := by rfl) (hK : X.K = K := by rfl) :
    EP K X (.Call (.Name "len" p) (e :: es) [] pos) (tCB (fun xs H Q => ∃ x n, xs = [x] ∧ LenV K x H n ∧ Q (.int n) H) tr) (eA gLen fr) := by
  subst hK
  exact ⟨pe_callB call_len hg hm PySem.boot_len ha.pe (by decide) (by decide) he hpl, den_cb okc_len ha.de⟩
theorem fAbs (hm : X.mg "abs" = none) (hg : Gl X "abs" := by rfl) (ha : EA K X (e :: es) tr fr) (he : starEach (e :: es) X.env = (false, eval e X.env) :: starEach es X.env := by rfl) (hpl : (backTo pos (starEach es X.env)).any (·.1) = false := by rfl) :
    EP K X (.Call (.Name "abs" p) (e :: es) [] pos) (tCB (fun xs H Q => ∃ i, xs = [.int i] ∧ Q (.int (if i < 0 then -i else i)) H) tr) (eA gAbs fr) := ⟨pe_callB call_abs hg hm (by decide +kernel) ha.pe (by decide) (by decide) he hpl, den_cb okc_abs ha.de⟩
theorem fMax (hm : X.mg "max" = none) (hc : X.calm = true := by rfl) (hg : Gl X "max" := by rfl) (ha : EA K X (e :: es) tr fr) (he : starEach (e :: es) X.env = (false, eval e X.env) :: starEach es X.env := by rfl) (hpl : (backTo pos (starEach es X.env)).any (·.1) = false := by rfl) :
    EP K X (.Call (.Name "max" p) (e :: es) [] pos) (tCB (fun xs H Q => ∃ i j, xs = [.int i, .int j] ∧ Q (.int (if j > i then j else i)) H) tr) (eA gMax fr) := ⟨pe_callB (call_max2 hc) hg hm (by decide +kernel) ha.pe (by decide) (by decide) he hpl, den_cb okc_max ha.de⟩
theorem fInt (hm : X.mg "int" = none) (hg : Gl X "int" := by rfl) (ha : EA K X (e :: es) tr fr) (he : starEach (e :: es) X.env = (false, eval e X.env) :: starEach es X.env := by rfl) (hpl : (backTo pos (starEach es X.env)).any (·.1) = false := by rfl) :
    EP K X (.Call (.Name "int" p) (e :: es) [] pos) (tCB (fun xs H Q => (∃ i, xs = [.int i] ∧ Q (.int i) H) ∨ ∃ k, xs = [.bl k] ∧ Q (.int (if k then 1 else 0)) H) tr) (eA gInt fr) := ⟨pe_callTy call_int1 hg hm (by decide +kernel) ha.pe (by decide) (by decide) he hpl, den_cb okc_int ha.de⟩
theorem fList (hm : X.mg "list" = none) (hg : Gl X "list" := by rfl) (ha : EA K X (e :: es) tr fr) (he : starEach (e :: es) X.env = (false, eval e X.env) :: starEach es X.env := by rfl) (hpl : (backTo pos (starEach es X.env)).any (·.1) = false := by rfl) (hK : X.K = K := by rfl) :
    EN K X (.Call (.Name "list" p) (e :: es) [] pos) (tCB (fun xs H Q => ∃ p ys, xs = [.ref p] ∧ (SqL K H p ys ∨ SqT K H p ys) ∧ ∀ l, H l = none → Q (.ref l) (upd H l (.lst ys))) tr) (nList fr) := by
  subst hK
  exact ⟨pe_callTy call_list_of hg hm (by decide +kernel) ha.pe (by decide) (by decide) he hpl, den_list ha.de⟩
/-- isinstance(x, T), T the name of a built-in class -/
theorem fIsi (n : String) {y : Str} {q : Pos} (hm : X.mg "isinstance" = none) (hy : X.mg y = none) (hv : bootBuiltins y = some (.type n) := by decide +kernel) (hg : Gl X "isinstance" := by rfl) (hgy : Gl X y := by rfl) (ha : EO K X e te f) (hn : y ≠ "__name__" := by decide) (hd : (y == ("__debug__" : Str)) = false := by decide)
    (he : starEach (e :: [.Name y q]) X.env = (false, eval e X.env) :: starEach [.Name y q] X.env := by rfl) (hs2 : starEach [.Name y q] X.env = (false, eval (.Name y q) X.env) :: starEach [] X.env := by rfl) (hpl : (backTo pos (starEach [.Name y q] X.env)).any (·.1) = false := by rfl) (hK : X.K = K := by rfl) :
    EP K X (.Call (.Name "isinstance" p) [e, .Name y q] [] pos) (tCB (rIsi K) (tCons te (tCons (tC (.ty n)) tNil))) (e1 (gIsi n) f) := by
  subst hK
  exact ⟨pe_callB call_isi hg hm (by decide +kernel) (pa_cons ha.pe (pa_cons (pe_bltn (v := .ty n) hgy hy hv rfl hn hd) pa_nil hs2) he) (by decide) (by decide) he hpl, den_isi ha.de⟩
/-- a def of the program that a plain function tells -/
theorem cal {n k f : Nat} {fd : FuncData} {x : Str} {ps : List Str} {g : List PyData → Option PyData} (F : FnOk X.prog X.w K X.mg X.base CX0 k f fd ps (spD K n g)) (hr : Room k X.A) (hm : X.mg x = some (.ref f)) (hk : PySem.W.keepIn K (.ref f) = true) (hb : Binds K fd ps []) (ha : EB K X (e :: es) tr fr)
    (hg : Gl X x := by rfl) (hdb : (x == ("__debug__" : Str)) = false := by decide) (he : starEach (e :: es) X.env = (false, eval e X.env) :: starEach es X.env := by rfl) (hpl : (backTo pos (starEach es X.env)).any (·.1) = false := by rfl) (hK : X.K = K := by rfl) :
    EP K X (.Call (.Name x p) (e :: es) [] pos) (tCall (spD K n g) [] E0 tr) (eA (fun ds => if ds.length = n then g ds else none) fr) := by
  subst hK
  exact ⟨pe_call F hr hg hm hk hb .nil pass0 ha.pe hdb he hpl, den_call ha.de⟩
theorem fJoin {ap q : Pos} (ha : EO K X a ta fa) (hb : EO K X b tb fb) (hs : starEach [b] X.env = [(false, eval b X.env)] := by rfl) (h1 : attributeBase a "join" X.env (eval a X.env) = eval a X.env := by rfl) (h2 : (ap.endLine == q.line) = true := by rfl) (hK : X.K = K := by rfl) :
    EP K X (.Call (.Attribute a "join" ap) [b] [] q) (tM1 (rJoin K) ta tb) (e2 gJoin fa fb) := by
  subst hK
  exact ⟨pe_join ha.pe hb.pe hs h1 h2, den_join ha.de hb.de⟩
/-! ### walks -/
variable {tg : Expr}
theorem iL (h : EP K X e te f) (hK : X.K = K := by rfl) : EI K X tg e (iList K te) (iLS f) := by
  subst hK
  exact ⟨pi_list h.pe, den_il h.de⟩
theorem jL (h : EO K X e te f) (hK : X.K = K := by rfl) : EJ K X tg e (iList K te) (iLS f) := by
  subst hK
  exact ⟨pi_list h.pe, den_ilo h.de⟩
theorem iTu (h : EO K X e te f) (hK : X.K = K := by rfl) : EI K X tg e (iTup K te) (iT f) := by
  subst hK
  exact ⟨pi_tup h.pe, den_it h.de⟩
theorem iSt (h : EO K X e te f) : EI K X tg e (iStr te) (iS f) := ⟨pi_str h.pe, den_is h.de⟩
theorem iRa (hm : X.mg "range" = none) (ha : EA K X [a] tr fr) (hg : Gl X "range" := by rfl) (hs : starEach [a] X.env = [(false, eval a X.env)] := by rfl) : EI K X tg (.Call (.Name "range" p) [a] [] pos) (iRng1 tr) (iR1 fr) := ⟨pi_range1 hg hm ha.pe hs, den_ir1 ha.de⟩
theorem iRv_ (hm : X.mg "reversed" = none) (ha : EB K X [a] tr fr) (hg : Gl X "reversed" := by rfl) (hs : starEach [a] X.env = [(false, eval a X.env)] := by rfl) (hK : X.K = K := by rfl) : EI K X tg (.Call (.Name "reversed" p) [a] [] pos) (iRev K tr) (iRv fr) := by
  subst hK
  exact ⟨pi_reversed hg hm ha.pe hs, den_irv ha.de⟩
variable {elts : List Expr} {kk : Nat} {tpos : Pos}
theorem iEn_ (hm : X.mg "enumerate" = none) (ha : EB K X [a] tr fr) (hg : Gl X "enumerate" := by rfl) (hs : starEach [a] X.env = [(false, eval a X.env)] := by rfl) (hK : X.K = K := by rfl) : EI K X (.Tuple elts kk tpos) (.Call (.Name "enumerate" p) [a] [] pos) (iEnum K tr) (iEn fr) := by
  subst hK
  exact ⟨pi_enum hg hm ha.pe hs, den_ien ha.de⟩
theorem iZp_ (hm : X.mg "zip" = none) (ha : EB K X [a, b] tr fr) (hg : Gl X "zip" := by rfl) (hs : starEach [a, b] X.env = (false, eval a X.env) :: starEach [b] X.env := by rfl) (h2 : (backTo pos (starEach [b] X.env)).any (·.1) = false := by rfl) (hK : X.K = K := by rfl) :
    EI K X (.Tuple elts kk tpos) (.Call (.Name "zip" p) [a, b] [] pos) (iZip K tr) (iZp fr) := by
  subst hK
  exact ⟨pi_zip hg hm ha.pe hs h2, den_izp ha.de⟩
variable {wi : TI} {fi : Env → Option (List PyData)}
theorem EI.j (h : EI K X tg e wi fi) : EJ K X tg e wi fi := ⟨h.pe, h.de.o⟩
/-! ### targets -/
theorem gN (i : Nat) {x : Str} {S : List Nat} (nd : X.N.Nodup) (hi : i ∈ S := by decide) (hN : X.N[i]? = some x := by rfl) (hl : Loc X.env.scope x := by first | exact Or.inl rfl | exact Or.inr rfl) (hf : X.fn x = true ∨ X.env.scope.names.lookup x = some .local := by first | exact Or.inr rfl | exact Or.inl rfl) : EG K X S (.Name x pos) (gName i) (tgN i) :=
  ⟨pg_name nd hN hl hf, den_gn hi⟩
theorem gs0 {S : List Nat} : EGs K X S [] gNil tgNil := ⟨pgs_nil, den_gnil⟩
theorem gsC {S : List Nat} {e : Expr} {es : List Expr} {g : TG} {gs : TGs} {G : PyData → Env → Option Env} {Gs : List PyData → Env → Option Env} (h : EG K X S e g G) (hs : EGs K X S es gs Gs) (hx : (assignEach (e :: es) X.env).map (·.2) = assign e X.env :: (assignEach es X.env).map (·.2) := by rfl) : EGs K X S (e :: es) (gCons g gs) (tgCons G Gs) :=
  ⟨pgs_cons h.pe hs.pe hx, den_gcons h.de hs.de⟩
theorem gT {S : List Nat} {es : List Expr} {gs : TGs} {Gs : List PyData → Env → Option Env} {n k : Nat} (h : EGs K X S es gs Gs) (hc : X.calm = true := by rfl) (hn : (assignEach es X.env).length = n := by rfl) (hst : (assignEach es X.env).findIdx? (·.1) = none := by rfl) (hK : X.K = K := by rfl) : EG K X S (.Tuple es k pos) (gTup K n gs) (tgT n Gs) := by
  subst hK
  exact ⟨pg_tup hc h.pe hn hst, den_gtup h.de⟩
/-! ### statements -/
variable {st : Stmt} {rest : List Stmt} {ts tu : TS} {F F2 : Env → Option Out} {g : TG} {G : PyData → Env → Option Env} {S : List Nat}
theorem b0 : EK K X [] tNext sNext := ⟨pss_nil, dens_next⟩
theorem b1 (h : ES K X st ts F) : EK K X [st] ts F := ⟨pss_one h.pe, h.de⟩
theorem bC (h : ES K X st ts F) (hr : EK K X rest tu F2) : EK K X (st :: rest) (tSeq ts tu) (sSeq F F2) := ⟨pss_cons h.pe hr.pe, dens_seq h.de hr.de⟩
theorem EK.free (i : Nat) (h : EK K X rest ts F) : EK K X rest ts (sFree i F) := ⟨h.pe, dens_free h.de⟩
theorem ES.free (i : Nat) (h : ES K X st ts F) : ES K X st ts (sFree i F) := ⟨h.pe, dens_free h.de⟩
theorem zAsg (h : EP K X e te f) (hg : EG K X S tg g G) (hs : swapsWithSole [tg] e pos.line X.env = pure false := by rfl) (h2 : swappedStores [tg] e X.env = pure none := by rfl) (h3 : (assignEach [tg] X.env).map (·.2) = [assign tg X.env] := by rfl) : ES K X (.Assign [tg] e pos) (tAsg te g) (sAsg f G) :=
  ⟨ps_asg h.pe hg.pe hs h2 h3, dens_asg h.de hg.de⟩
theorem zOwn (i : Nat) {x : Str} {px : Pos} (nd : X.N.Nodup) (h : EN K X e te fn) (hN : X.N[i]? = some x := by rfl) (hl : Loc X.env.scope x := by first | exact Or.inl rfl | exact Or.inr rfl) (hf : X.fn x = true ∨ X.env.scope.names.lookup x = some .local := by first | exact Or.inr rfl | exact Or.inl rfl)
    (hs : swapsWithSole [.Name x px] e pos.line X.env = pure false := by rfl) (h2 : swappedStores [.Name x px] e X.env = pure none := by rfl) (h3 : (assignEach [.Name x px] X.env).map (·.2) = [assign (.Name x px) X.env] := by rfl) : ES K X (.Assign [.Name x px] e pos) (tAsg te (gName i)) (sOwn fn i) :=
  ⟨ps_asg h.pe (pg_name nd hN hl hf) hs h2 h3, dens_own h.de⟩
theorem zRet (h : EP K X e te f) : ES K X (.Return (some e) pos) (tRet te) (sRet f) := ⟨ps_ret h.pe, dens_ret h.de⟩
theorem zRetO (i : Nat) {x : Str} {q : Pos} (h : EO K X (.Name x q) (tVar i) (eVarO i)) : ES K X (.Return (some (.Name x q)) pos) (tRet (tVar i)) (sRetO i) := ⟨ps_ret h.pe, dens_reto⟩
theorem zRetN (h : EN K X e te fn) : ES K X (.Return (some e) pos) (tRet te) (sRetN fn) := ⟨ps_ret h.pe, dens_retn h.de⟩
theorem zPass : ES K X (.Pass pos) tNext sNext := ⟨ps_pass, dens_next⟩
theorem zBreak : ES K X (.Break pos) tBreak sBreak := ⟨ps_break, dens_break⟩
theorem zCont : ES K X (.Continue pos) tCont sCont := ⟨ps_continue, dens_cont⟩
variable {sa sb : List Stmt}
theorem zIf (h : ET K X c tA' t) (ha : EK K X sa ts F) (hb : EK K X sb tu F2) : ES K X (.If c sa sb pos) (tIfS tA' ts tu) (sIf t F F2) := ⟨ps_if h.pe ha.pe hb.pe, dens_if h.de ha.de hb.de⟩
theorem zFor {iter : Expr} {body : List Stmt} (hp : PassesOwn (model X.prog X.w) X.A X.env X.xe) (hi : EI K X tg iter wi fi) (hg : EG K X S tg g G) (hb : EK K X body ts F) (hc : X.calm = true := by rfl) (hs : ∀ x, foldedSetIterable iter X.env x = pure x := by intro _; rfl) : ES K X (.For tg iter body [] pos) (tFor wi g ts) (sFor fi G F) :=
  ⟨ps_for hp hc hi.pe hg.pe hb.pe hs, dens_for hi.de hg.de hb.de⟩
theorem zApp (i : Nat) {x : Str} {px ap q qq : Pos} (hx : EO K X (.Name x px) (tVar i) (eVarO i)) (h : EP K X e te f) (hb : attributeBase (.Name x px) "append" X.env (eval (.Name x px) X.env) = eval (.Name x px) X.env := by rfl)
    (hfew : (((backTo q (starEach [e] X.env)).all (!·.1) && (backToKw q (keywordEach [] X.env)).all (·.1.isSome)) && decide (([e].length + ([] : List Keyword).length + if ([] : List Keyword).isEmpty = true then 0 else 1) < 30)) = true := by rfl) (hl : (ap.endLine == q.line) = true := by rfl)
    (he : starEach (e :: []) X.env = (false, eval e X.env) :: starEach [] X.env := by rfl) (hpl : (backTo q (starEach [] X.env)).any (·.1) = false := by rfl) (hs : swapsWith (.Call (.Attribute (.Name x px) "append" ap) [e] [] q) none qq.line X.env = pure false := by rfl) (hK : X.K = K := by rfl) : ES K X (.Expr (.Call (.Attribute (.Name x px) "append" ap) [e] [] q) qq) (tDrop (tBM K "list" rAppend (tVar i) (tCons te tNil))) (sApp i f) := by
  subst hK
  exact ⟨ps_expr (pe_bm PySem.F.plainAttrs_list PySem.F.slot_list_append PySem.F.type_list_append mt_append hx.pe (pa_cons h.pe pa_nil he) hb hfew hl he hpl) hs, dens_app h.de⟩
theorem zExt (i : Nat) {x : Str} {px ap q qq : Pos} (hx : EO K X (.Name x px) (tVar i) (eVarO i)) (h : EP K X e te f) (hb : attributeBase (.Name x px) "extend" X.env (eval (.Name x px) X.env) = eval (.Name x px) X.env := by rfl)
    (hfew : (((backTo q (starEach [e] X.env)).all (!·.1) && (backToKw q (keywordEach [] X.env)).all (·.1.isSome)) && decide (([e].length + ([] : List Keyword).length + if ([] : List Keyword).isEmpty = true then 0 else 1) < 30)) = true := by rfl) (hl : (ap.endLine == q.line) = true := by rfl)
    (he : starEach (e :: []) X.env = (false, eval e X.env) :: starEach [] X.env := by rfl) (hpl : (backTo q (starEach [] X.env)).any (·.1) = false := by rfl) (hs : swapsWith (.Call (.Attribute (.Name x px) "extend" ap) [e] [] q) none qq.line X.env = pure false := by rfl) (hK : X.K = K := by rfl) : ES K X (.Expr (.Call (.Attribute (.Name x px) "extend" ap) [e] [] q) qq) (tDrop (tBM K "list" rExtend (tVar i) (tCons te tNil))) (sExt i f) := by
  subst hK
  exact ⟨ps_expr (pe_bm PySem.F.plainAttrs_list PySem.F.slot_list_extend PySem.F.type_list_extend mt_extend hx.pe (pa_cons h.pe pa_nil he) hb hfew hl he hpl) hs, dens_ext h.de⟩
/-! ### comprehensions -/
structure ETs (K : PySem.W.Frag) (X : Cx) (es : List Expr) (t : TT) (f : Env → Option Bool) : Prop where
  pe : PTs X es t
  de : DenT K t f
theorem ts0 : ETs K X [] tYes (fun _ => some true) := ⟨pts_nil, denT_yes⟩
theorem ts1 (h : ET K X c tA' t) : ETs K X [c] tA' t := ⟨pts_one h.pe, h.de⟩
theorem lcp {iter : Expr} {ifs : List Expr} {scope : Scope} (own : List (Str × Nat)) (s0 : Shared) (nd : X.N.Nodup) (hi : EJ K X tg iter wi fi) (ok : BlkOk X.N X.env.scope scope own)
    (hg : ∀ (s : Shared) (H : Hp) (C : Addr) (cl : List (Str × Addr)) (fp : List Addr), EG K (X.blk s H scope (compEnvC scope cl C X.env) fp) (own.map (·.2)) tg g G)
    (ht : ∀ (s : Shared) (H : Hp) (C : Addr) (cl : List (Str × Addr)) (fp : List Addr), ETs K (X.blk s H scope (compEnvC scope cl C X.env) fp) ifs tA' t)
    (he : ∀ (s : Shared) (H : Hp) (C : Addr) (cl : List (Str × Addr)) (fp : List Addr), EP K (X.blk s H scope (compEnvC scope cl C X.env) fp) e te f) (hc : X.calm = true := by rfl)
    (hs : ∀ x, foldedSetIterable iter X.env x = pure x := by intro _; rfl) : EN K X (.ListComp e [⟨tg, iter, ifs, 0⟩] scope pos) (tLc wi g tA' te (own.map (·.2))) (nLc fi G t f (own.map (·.2))) :=
  ⟨pe_lc hc nd hi.pe ok (fun s H C cl fp => (hg s H C cl fp).pe) (fun s H C cl fp => (ht s H C cl fp).pe) (fun s H C cl fp => (he s H C cl fp).pe) hs,
    den_lc hi.de (hg s0 (fun _ => none) 0 [] []).de (ht s0 (fun _ => none) 0 [] []).de (he s0 (fun _ => none) 0 [] []).de⟩
/-- y = [..] -/
theorem zLc {iter : Expr} {ifs : List Expr} {scope : Scope} (i : Nat) {y : Str} {py spos : Pos} (own : List (Str × Nat)) (s0 : Shared) (nd : X.N.Nodup) (hi : EJ K X tg iter wi fi) (ok : BlkOk X.N X.env.scope scope own)
    (hg : ∀ (s : Shared) (H : Hp) (C : Addr) (cl : List (Str × Addr)) (fp : List Addr), EG K (X.blk s H scope (compEnvC scope cl C X.env) fp) (own.map (·.2)) tg g G)
    (ht : ∀ (s : Shared) (H : Hp) (C : Addr) (cl : List (Str × Addr)) (fp : List Addr), ETs K (X.blk s H scope (compEnvC scope cl C X.env) fp) ifs tA' t)
    (he : ∀ (s : Shared) (H : Hp) (C : Addr) (cl : List (Str × Addr)) (fp : List Addr), EP K (X.blk s H scope (compEnvC scope cl C X.env) fp) e te f)
    (hsw : swapsWith (.ListComp e [⟨tg, iter, ifs, 0⟩] scope pos) (some (.Name y py)) spos.line X.env = pure true) (hy : X.N[i]? = some y := by rfl) (hyl : X.env.scope.names.lookup y = some .local := by rfl) (hc : X.calm = true := by rfl)
    (hs : ∀ x, foldedSetIterable iter X.env x = pure x := by intro _; rfl) : ES K X (.Assign [.Name y py] (.ListComp e [⟨tg, iter, ifs, 0⟩] scope pos) spos) (tAsg (tLc wi g tA' te (own.map (·.2))) (gName i)) (sOwn (nLc fi G t f (own.map (·.2))) i) :=
  ⟨ps_setLc hc nd hy hyl hsw hi.pe ok (fun s H C cl fp => (hg s H C cl fp).pe) (fun s H C cl fp => (ht s H C cl fp).pe) (fun s H C cl fp => (he s H C cl fp).pe) hs,
    dens_own (den_lc hi.de (hg s0 (fun _ => none) 0 [] []).de (ht s0 (fun _ => none) 0 [] []).de (he s0 (fun _ => none) 0 [] []).de)⟩
end
theorem ek_out {X : Cx} {K : PySem.W.Frag} {sts : List Stmt} {t : TS} {F : Env → Option Out} (h : EK K X sts t F) : ∃ t, PSs X sts t ∧ DenS K t F := ⟨t, h.pe, h.de⟩
/-- a def that may be called by its name -/
def Cal (P : Program) (w : World) (K : PySem.W.Frag) (mg : Str → Option Value) (base : Heap) (k : Nat) (x : Str) (n : Nat) (ps : List Str) (g : List PyData → Option PyData) : Prop :=
  ∃ (f : Addr) (fd : FuncData), FnOk P w K mg base CX0 k f fd ps (spD K n g) ∧ mg x = some (.ref f) ∧ PySem.W.keepIn K (.ref f) = true ∧ Binds K fd ps []
theorem cal1 {K : PySem.W.Frag} {X : Cx} {x : Str} {p pos : Pos} {e : Expr} {es : List Expr} {tr : TA} {fr : PL.Env → Option (List PyData)} {n k m : Nat} {ps : List Str} {g : List PyData → Option PyData} (C : Cal X.prog X.w K X.mg X.base k x n ps g) (hr : Room m X.A) (hk : k ≤ m) (ha : EB K X (e :: es) tr fr)
    (hg : Gl X x := by rfl) (hdb : (x == ("__debug__" : Str)) = false := by decide) (he : starEach (e :: es) X.env = (false, eval e X.env) :: starEach es X.env := by rfl) (hpl : (backTo pos (starEach es X.env)).any (·.1) = false := by rfl) (hK : X.K = K := by rfl) :
    EP K X (.Call (.Name x p) (e :: es) [] pos) (tCall (spD K n g) [] E0 tr) (eA (fun ds => if ds.length = n then g ds else none) fr) := by
  subst hK
  obtain ⟨f, fd, F, hm, kp, hb⟩ := C
  exact cal F (hr.mono hk) hm kp hb ha hg hdb he hpl
/-! ### calls whose arguments may be hidden lists -/
mutual
def noList : PyData → Bool
  | .none | .bool _ | .int _ | .str _ => true
  | .tuple xs => noListAll xs
  | .list _ | .dict _ => false
def noListAll : List PyData → Bool
  | [] => true
  | x :: xs => noList x && noListAll xs
end
section
variable {K : PySem.W.Frag} {O : Hid} {H H' : Hp}
theorem unl_lst {a : Addr} {xs : List V} (h : H a = some (.lst xs)) : unl O H a = false := by
  unfold unl
  rw [h]
  simp
theorem opd_unl : ∀ {vs : List V} {ds : List PyData}, OpdAll K O H vs ds → RpAll K (vis (unl O H) H) vs ds
  | _, _, .nil => .nil
  | _, _, .cons h t => by
    refine .cons ?_ (opd_unl t)
    rcases h with h | ⟨a, vs, ds, rfl, h, r, rfl⟩ | ⟨kvs, hd, h⟩
    · exact h.mono unl_le
    · exact .lst (vis_at (unl_lst h) h) (r.mono unl_le)
    · exact h
mutual
theorem Rp.last (e : PL.Ex H H') : ∀ {v : V} {d : PyData}, Rp K (vis (unl O H) H') v d → noList d = true → Rp K (vis O H') v d
  | _, _, .non, _ => .non
  | _, _, .bl b, _ => .bl b
  | _, _, .int i, _ => .int i
  | _, _, .str x, _ => .str x
  | _, _, .lst h a, n => by cases n
  | _, _, .tup (a := b) h a, n => by
    have n' : noListAll _ = true := n
    refine .tup ?_ (RpAll.last e a n')
    rcases h with h | h
    · rcases h with h | ⟨o, h⟩
      · refine .inl (.inl (vis_at ?_ (vis_le _ _ h)))
        have h2 := vis_le _ _ h
        cases z : O b with
        | false => rfl
        | true =>
          have hu : unl O H b = false := by
            cases y : unl O H b with
            | false => rfl
            | true =>
              unfold vis at h
              rw [if_pos y] at h
              cases h
          unfold unl at hu
          rw [z] at hu
          cases q : H b with
          | none => rw [q] at hu; simp at hu
          | some u =>
            rw [e b u q] at h2
            cases h2
            rw [q] at hu
            simp at hu
      · refine .inl (.inr ⟨o, vis_at ?_ (vis_le _ _ h)⟩)
        have h2 := vis_le _ _ h
        cases z : O b with
        | false => rfl
        | true =>
          have hu : unl O H b = false := by
            cases y : unl O H b with
            | false => rfl
            | true =>
              unfold vis at h
              rw [if_pos y] at h
              cases h
          unfold unl at hu
          rw [z] at hu
          cases q : H b with
          | none => rw [q] at hu; simp at hu
          | some u =>
            rw [e b u q] at h2
            cases h2
            rw [q] at hu
            simp at hu
    · exact .inr h
  | _, _, .scr h, n => by cases n
theorem RpAll.last (e : PL.Ex H H') : ∀ {vs : List V} {ds : List PyData}, RpAll K (vis (unl O H) H') vs ds → noListAll ds = true → RpAll K (vis O H') vs ds
  | _, _, .nil, _ => .nil
  | _, _, .cons h t, n => by
    have n' : (noList _ && noListAll _) = true := n
    rw [Bool.and_eq_true] at n'
    exact .cons (Rp.last e h n'.1) (RpAll.last e t n'.2)
end
mutual
theorem Rp.nol {p : Addr} {zs : List V} : ∀ {v : V} {d : PyData}, Rp K (vis O H) v d → noList d = true → H p = some (.lst zs) → Rp K (vis (hid O p) H) v d
  | _, _, .non, _, _ => .non
  | _, _, .bl b, _, _ => .bl b
  | _, _, .int i, _, _ => .int i
  | _, _, .str x, _, _ => .str x
  | _, _, .lst h a, n, _ => by cases n
  | _, _, .tup (a := b) h a, n, hp => by
    have n' : noListAll _ = true := n
    refine .tup ?_ (RpAll.nol a n' hp)
    have go : ∀ u, vis O H b = some u → b ≠ p → vis (hid O p) H b = some u := fun u hb ne => by
      refine vis_at ?_ (vis_le _ _ hb)
      unfold hid
      rw [Bool.or_eq_false_iff]
      refine ⟨?_, by simp [ne]⟩
      cases z : O b with
      | false => rfl
      | true =>
        unfold vis at hb
        rw [if_pos z] at hb
        cases hb
    rcases h with (h | ⟨o, h⟩) | h
    · exact .inl (.inl (go _ h fun e => by rw [e] at h; rw [vis_le _ _ h] at hp; cases hp))
    · exact .inl (.inr ⟨o, go _ h fun e => by rw [e] at h; rw [vis_le _ _ h] at hp; cases hp⟩)
    · exact .inr h
  | _, _, .scr h, n, _ => by cases n
theorem RpAll.nol {p : Addr} {zs : List V} : ∀ {vs : List V} {ds : List PyData}, RpAll K (vis O H) vs ds → noListAll ds = true → H p = some (.lst zs) → RpAll K (vis (hid O p) H) vs ds
  | _, _, .nil, _, _ => .nil
  | _, _, .cons h t, n, hp => by
    have n' : (noList _ && noListAll _) = true := n
    rw [Bool.and_eq_true] at n'
    exact .cons (Rp.nol h n'.1 hp) (RpAll.nol t n'.2 hp)
end
theorem unl_al (al : ∀ a, O a = true → H a ≠ none) : ∀ a, unl O H a = true → H a ≠ none := fun a h => by
  unfold unl at h
  rw [Bool.and_eq_true] at h
  exact al a h.1
theorem den_callX {n : Nat} {g : List PyData → Option PyData} {E : XK} {tr : TA} {fr : PL.Env → Option (List PyData)} (h : DenA K tr fr) : DenP K (tCall (spD K n g) [] E tr) (eA (fun ds => if ds.length = n then (g ds).bind fun d => if noList d then some d else none else none) fr) := by
  intro base O0 O σ H env d S e Q q
  unfold eA at e
  cases k1 : fr env with
  | none => simp [k1] at e
  | some xs =>
    simp only [k1, Option.bind_some] at e
    split at e
    case isFalse => cases e
    rename_i hn
    cases k2 : g xs with
    | none => simp [k2] at e
    | some d2 =>
      simp only [k2, Option.bind_some] at e
      split at e
      case isFalse => cases e
      rename_i hl
      cases e
      refine h base O0 O σ H env xs S k1 _ fun vs H1 x1 r => ?_
      have r2 := opd_unl r
      show spD K n g (vs ++ []) H1 Q E
      rw [List.append_nil]
      exact ⟨unl O H1, xs, d, by rw [r2.length]; exact hn, unl_al (S.mono x1).all, r2, k2, fun v H2 x2 _ r3 => q v H2 (x1.trans x2) (r3.last x2 hl)⟩
theorem den_callNX {n : Nat} {g : List PyData → Option (List PyData)} {E : XK} {tr : TA} {fr : PL.Env → Option (List PyData)} (h : DenA K tr fr) : DenN K (tCall (spN K n g) [] E tr) (fun env => (fr env).bind fun ds => if ds.length = n then (g ds).bind fun es => if noListAll es then some es else none else none) := by
  intro base O0 O σ H env d S e Q q
  cases k1 : fr env with
  | none => simp [k1] at e
  | some xs =>
    simp only [k1, Option.bind_some] at e
    split at e
    case isFalse => cases e
    rename_i hn
    cases k2 : g xs with
    | none => simp [k2] at e
    | some d2 =>
      simp only [k2, Option.bind_some] at e
      split at e
      case isFalse => cases e
      rename_i hl
      cases e
      refine h base O0 O σ H env xs S k1 _ fun vs H1 x1 r => ?_
      have r2 := opd_unl r
      show spN K n g (vs ++ []) H1 Q E
      rw [List.append_nil]
      refine ⟨unl O H1, xs, d, by rw [r2.length]; exact hn, unl_al (S.mono x1).all, r2, k2, fun p ws H2 hp x2 g2 r3 => q p ws H2 (x1.free hp) (x1.trans x2) g2 ?_⟩
      have r4 : RpAll K (vis O H2) ws d := (r3.mono hid_le).last x2 hl
      exact RpAll.nol r4 hl g2
end
/-- a def that may be called by its name and hands back a new list -/
def CalN (P : Program) (w : World) (K : PySem.W.Frag) (mg : Str → Option Value) (base : Heap) (k : Nat) (x : Str) (n : Nat) (ps : List Str) (g : List PyData → Option (List PyData)) : Prop :=
  ∃ (f : Addr) (fd : FuncData), FnOk P w K mg base CX0 k f fd ps (spN K n g) ∧ mg x = some (.ref f) ∧ PySem.W.keepIn K (.ref f) = true ∧ Binds K fd ps []
section
variable {K : PySem.W.Frag} {X : Cx} {x : Str} {p pos : Pos} {e : Expr} {es : List Expr} {tr : TA} {fr : PL.Env → Option (List PyData)} {n k m : Nat} {ps : List Str}
theorem cal1N {g : List PyData → Option (List PyData)} (C : CalN X.prog X.w K X.mg X.base k x n ps g) (hr : Room m X.A) (hk : k ≤ m) (ha : EB K X (e :: es) tr fr)
    (hg : Gl X x := by rfl) (hdb : (x == ("__debug__" : Str)) = false := by decide) (he : starEach (e :: es) X.env = (false, eval e X.env) :: starEach es X.env := by rfl) (hpl : (backTo pos (starEach es X.env)).any (·.1) = false := by rfl) (hK : X.K = K := by rfl) :
    EN K X (.Call (.Name x p) (e :: es) [] pos) (tCall (spN K n g) [] E0 tr) (fun env => (fr env).bind fun ds => if ds.length = n then g ds else none) := by
  subst hK
  obtain ⟨f, fd, F, hm, kp, hb⟩ := C
  exact ⟨pe_call F (hr.mono hk) hg hm kp hb .nil pass0 ha.pe hdb he hpl, den_callN ha.de⟩
theorem cal1NX {g : List PyData → Option (List PyData)} (C : CalN X.prog X.w K X.mg X.base k x n ps g) (hr : Room m X.A) (hk : k ≤ m) (ha : EA K X (e :: es) tr fr)
    (hg : Gl X x := by rfl) (hdb : (x == ("__debug__" : Str)) = false := by decide) (he : starEach (e :: es) X.env = (false, eval e X.env) :: starEach es X.env := by rfl) (hpl : (backTo pos (starEach es X.env)).any (·.1) = false := by rfl) (hK : X.K = K := by rfl) :
    EN K X (.Call (.Name x p) (e :: es) [] pos) (tCall (spN K n g) [] E0 tr) (fun env => (fr env).bind fun ds => if ds.length = n then (g ds).bind fun es => if noListAll es then some es else none else none) := by
  subst hK
  obtain ⟨f, fd, F, hm, kp, hb⟩ := C
  exact ⟨pe_call F (hr.mono hk) hg hm kp hb .nil pass0 ha.pe hdb he hpl, den_callNX ha.de⟩
theorem cal1X {g : List PyData → Option PyData} (C : Cal X.prog X.w K X.mg X.base k x n ps g) (hr : Room m X.A) (hk : k ≤ m) (ha : EA K X (e :: es) tr fr)
    (hg : Gl X x := by rfl) (hdb : (x == ("__debug__" : Str)) = false := by decide) (he : starEach (e :: es) X.env = (false, eval e X.env) :: starEach es X.env := by rfl) (hpl : (backTo pos (starEach es X.env)).any (·.1) = false := by rfl) (hK : X.K = K := by rfl) :
    EP K X (.Call (.Name x p) (e :: es) [] pos) (tCall (spD K n g) [] E0 tr) (eA (fun ds => if ds.length = n then (g ds).bind fun d => if noList d then some d else none else none) fr) := by
  subst hK
  obtain ⟨f, fd, F, hm, kp, hb⟩ := C
  exact ⟨pe_call F (hr.mono hk) hg hm kp hb .nil pass0 ha.pe hdb he hpl, den_callX ha.de⟩
end
end PL
/-! A Store's plain state: what a row does to it. -/
namespace PL
open PySem L2

/-! ### pairs by their texts -/
def getA {α : Type} (l : List (Str × α)) (x : Str) : Option α := (l.find? fun q => decide (q.1 = x)).map (·.2)
def putA {α : Type} (l : List (Str × α)) (x : Str) (v : α) : List (Str × α) := if (l.any fun q => decide (q.1 = x)) = true then l.map (fun q => if q.1 = x then (q.1, v) else q) else l ++ [(x, v)]
def dropA {α : Type} (l : List (Str × α)) (x : Str) : List (Str × α) := l.filter fun q => decide (q.1 ≠ x)
def kvs {α : Type} (f : α → V) (l : List (Str × α)) : List (Key × V) := l.map fun q => (kS q.1, f q.2)
theorem kS_inj {x y : Str} : kS x = kS y ↔ x = y := ⟨fun h => by cases h; rfl, fun h => by rw [h]⟩
section
variable {α : Type} {f : α → V}
theorem valV_kvs (l : List (Str × α)) (x : Str) : valV (kvs f l) (kS x) = (getA l x).map f := by
  induction l with
  | nil => rfl
  | cons q r ih =>
    unfold kvs at ih ⊢
    rw [List.map_cons]
    by_cases e : q.1 = x
    · rw [valV_pos (by rw [e])]
      unfold getA
      rw [List.find?_cons_of_pos (by simp [e])]
      rfl
    · rw [valV_neg (fun z => e (kS_inj.mp z)), ih]
      unfold getA
      rw [List.find?_cons_of_neg (by simp [e])]
theorem putK_kvs (l : List (Str × α)) (x : Str) (v : α) : putK (kvs f l) (kS x) (f v) = kvs f (putA l x v) := by
  have ha : ((kvs f l).any fun kv => decide (kv.1 = kS x)) = l.any fun q => decide (q.1 = x) := by
    unfold kvs
    rw [List.any_map]
    congr 1
    funext q
    exact decide_eq_decide.mpr kS_inj
  unfold putK putA
  rw [ha]
  split
  · unfold kvs
    rw [List.map_map, List.map_map]
    apply List.map_congr_left
    intro q _
    show (if kS q.1 = kS x then (kS q.1, f v) else (kS q.1, f q.2)) = _
    by_cases e : q.1 = x
    · rw [if_pos (kS_inj.mpr e)]
      show _ = (fun q => (kS q.1, f q.2)) (if q.1 = x then (q.1, v) else q)
      rw [if_pos e]
    · rw [if_neg (fun z => e (kS_inj.mp z))]
      show _ = (fun q => (kS q.1, f q.2)) (if q.1 = x then (q.1, v) else q)
      rw [if_neg e]
  · unfold kvs
    rw [List.map_append]
    rfl
theorem dropK_kvs (l : List (Str × α)) (x : Str) : dropK (kvs f l) (kS x) = kvs f (dropA l x) := by
  unfold dropK dropA kvs
  rw [List.filter_map]
  congr 1
  apply List.filter_congr
  intro q _
  show decide (kS q.1 ≠ kS x) = decide (q.1 ≠ x)
  exact decide_eq_decide.mpr (not_congr kS_inj)
theorem getA_put (l : List (Str × α)) (x y : Str) (v : α) : getA (putA l x v) y = if y = x then some v else getA l y := by
  unfold putA
  split
  · rename_i h
    induction l with
    | nil => cases h
    | cons q r ih =>
      rw [List.map_cons]
      by_cases e : q.1 = x
      · rw [if_pos e]
        by_cases e2 : y = x
        · rw [if_pos e2]
          unfold getA
          rw [List.find?_cons_of_pos (by simp [e, e2])]
          rfl
        · rw [if_neg e2]
          have ne : ¬ q.1 = y := fun z => e2 (z.symm.trans e)
          unfold getA at ih ⊢
          rw [List.find?_cons_of_neg (by simp [ne]), List.find?_cons_of_neg (by simp [ne])]
          by_cases hr : (r.any fun q => decide (q.1 = x)) = true
          · have := ih hr
            rw [if_neg e2] at this
            exact this
          · have : r.map (fun q => if q.1 = x then (q.1, v) else q) = r := by
              conv => rhs; rw [← List.map_id r]
              apply List.map_congr_left
              intro z hz
              have : ¬ z.1 = x := fun e => hr (List.any_eq_true.mpr ⟨z, hz, by simp [e]⟩)
              rw [if_neg this]
              rfl
            rw [this]
      · rw [if_neg e]
        have hr : (r.any fun q => decide (q.1 = x)) = true := by
          rw [List.any_cons] at h
          simpa [e] using h
        have ih := ih hr
        unfold getA at ih ⊢
        by_cases e2 : q.1 = y
        · have : ¬ y = x := fun z => e (e2.trans z)
          rw [if_neg this, List.find?_cons_of_pos (by simp [e2]), List.find?_cons_of_pos (by simp [e2])]
        · rw [List.find?_cons_of_neg (by simp [e2]), List.find?_cons_of_neg (by simp [e2])]
          exact ih
  · rename_i h
    induction l with
    | nil =>
      rw [List.nil_append]
      unfold getA
      by_cases e : y = x
      · rw [if_pos e, List.find?_cons_of_pos (by simp [e])]
        rfl
      · rw [if_neg e, List.find?_cons_of_neg (by simp; exact fun z => e z.symm)]
    | cons q r ih =>
      have h2 : ¬ q.1 = x ∧ ¬ (r.any fun q => decide (q.1 = x)) = true := by
        rw [List.any_cons] at h
        by_cases e : q.1 = x
        · simp [e] at h
        · exact ⟨e, by simpa [e] using h⟩
      have ih := ih h2.2
      unfold getA at ih ⊢
      rw [List.cons_append]
      by_cases e2 : q.1 = y
      · have : ¬ y = x := fun z => h2.1 (e2.trans z)
        rw [if_neg this, List.find?_cons_of_pos (by simp [e2]), List.find?_cons_of_pos (by simp [e2])]
      · rw [List.find?_cons_of_neg (by simp [e2]), List.find?_cons_of_neg (by simp [e2])]
        exact ih
theorem putA_len (l : List (Str × α)) (x : Str) (v : α) : (putA l x v).length ≤ l.length + 1 := by
  unfold putA
  split
  · rw [List.length_map]
    omega
  · rw [List.length_append]
    exact Nat.le_refl _
theorem any_get (l : List (Str × α)) (x : Str) : (l.any fun q => decide (q.1 = x)) = (getA l x).isSome := by
  induction l with
  | nil => rfl
  | cons q r ih =>
    rw [List.any_cons]
    unfold getA at ih ⊢
    by_cases e : q.1 = x
    · rw [List.find?_cons_of_pos (by simp [e])]
      simp [e]
    · rw [List.find?_cons_of_neg (by simp [e]), ← ih]
      simp [e]
end

/-! ### rows -/
inductive Row where
  | open_ (p : Str) | lay (n p : Str) (z : Int) | copy (n o p : Str) | same (n o : Str) | add (n o : Str) | tell (n : Str) | give (p : Str) | fork (k : Int) | go (k : Int) | end_
  deriving DecidableEq
def encR : Row → PyData
  | .open_ p => .tuple [.str "open", .str p]
  | .lay n p z => .tuple [.str "lay", .str n, .str p, .int z]
  | .copy n o p => .tuple [.str "copy", .str n, .str o, .str p]
  | .same n o => .tuple [.str "same", .str n, .str o]
  | .add n o => .tuple [.str "add", .str n, .str o]
  | .tell n => .tuple [.str "tell", .str n]
  | .give p => .tuple [.str "give", .str p]
  | .fork k => .tuple [.str "fork", .int k]
  | .go k => .tuple [.str "go", .int k]
  | .end_ => .tuple [.str "end"]
def decR : PyData → Option Row
  | .tuple [.str w] => if w = "end" then some .end_ else none
  | .tuple [.str w, .str x] => if w = "open" then some (.open_ x) else if w = "tell" then some (.tell x) else if w = "give" then some (.give x) else none
  | .tuple [.str w, .int k] => if w = "fork" then some (.fork k) else if w = "go" then some (.go k) else none
  | .tuple [.str w, .str x, .str y] => if w = "same" then some (.same x y) else if w = "add" then some (.add x y) else none
  | .tuple [.str w, .str x, .str y, .int z] => if w = "lay" then some (.lay x y z) else none
  | .tuple [.str w, .str x, .str y, .str z] => if w = "copy" then some (.copy x y z) else none
  | _ => none
theorem decR_encR (r : Row) : decR (encR r) = some r := by
  cases r <;> rfl
theorem encR_decR {d : PyData} {r : Row} (h : decR d = some r) : d = encR r := by
  unfold decR at h
  split at h
  · split at h
    · rename_i e
      cases h
      rw [e]
      rfl
    · cases h
  · split at h
    · rename_i e
      cases h
      rw [e]
      rfl
    · split at h
      · rename_i e
        cases h
        rw [e]
        rfl
      · split at h
        · rename_i e
          cases h
          rw [e]
          rfl
        · cases h
  · split at h
    · rename_i e
      cases h
      rw [e]
      rfl
    · split at h
      · rename_i e
        cases h
        rw [e]
        rfl
      · cases h
  · split at h
    · rename_i e
      cases h
      rw [e]
      rfl
    · split at h
      · rename_i e
        cases h
        rw [e]
        rfl
      · cases h
  · split at h
    · rename_i e
      cases h
      rw [e]
      rfl
    · cases h
  · split at h
    · rename_i e
      cases h
      rw [e]
      rfl
    · cases h
  · cases h

/-! ### what goes wrong, what a row does -/
namespace SM
variable (S : SM)
def isUp (x : Str) : Bool := (getA S.opens x).isSome
def wPlot (x : Str) : Str := if S.isUp x then "" else "not open"
def wHolder (x : Str) : Str := if (getA S.held x).isSome then "" else "nothing"
def valOf (x : Str) : Option (Str × Int × Int) := (getA S.held x).bind fun i => S.vals[i]?
def wName (x : Str) : Str := match S.valOf x with
  | none => "nothing"
  | some v => if getA S.opens v.1 = some v.2.1 then "" else "gone"
def wOpen (x : Str) : Str := if S.isUp x then "open already" else match getA S.chains x with
  | some (_ :: c :: _) => if S.isUp c then "" else "not open"
  | _ => ""
def orW (a b : Str) : Str := if a = "" then b else a
def wrong : Row → Str
  | .open_ p => S.wOpen p
  | .lay _ p _ => S.wPlot p
  | .copy _ o p => orW (S.wName o) (S.wPlot p)
  | .same _ o => S.wHolder o
  | .add n o => orW (S.wName n) (S.wName o)
  | .tell n => S.wName n
  | .give p => S.wPlot p
  | .end_ => if S.opens = [] then "" else "left"
  | _ => ""
def put (n p : Str) (z : Int) : SM := { S with held := putA S.held n S.vals.length, vals := S.vals ++ [(p, (getA S.opens p).getD 0, z)] }
def chainOf (x : Str) : List Str := (getA S.chains x).getD []
def within (p : Str) : List (Str × Int) := S.opens.filter fun q => decide (p ∈ S.chainOf q.1)
def numOf (x : Str) : Int := match S.valOf x with
  | some v => v.2.2
  | none => 0
def change : Row → SM
  | .open_ p => { S with opens := putA S.opens p S.opened, opened := S.opened + 1 }
  | .lay n p z => S.put n p z
  | .copy n o p => S.put n p (S.numOf o)
  | .same n o => match getA S.held o with
    | some i => { S with held := putA S.held n i }
    | none => S
  | .add n o => match getA S.held n with
    | some i => { S with vals := S.vals.modify i fun v => (v.1, v.2.1, v.2.2 + S.numOf o) }
    | none => S
  | .tell n => { S with told := S.told ++ [S.numOf n] }
  | .give p => { S with given := S.given ++ (S.within p).reverse.map (·.2), opens := S.opens.filter fun q => decide (p ∉ S.chainOf q.1) }
  | _ => S
/-- a row done -/
def act (r : Row) : Str × SM := (S.wrong r, if S.wrong r = "" then S.change r else S)
end SM
/-- what holds of a Store's state at any time: each open plot once, with its chain -/
structure SOk (S : SM) : Prop where
  nd : (S.opens.map (·.1)).Nodup
  ch : ∀ q ∈ S.opens, (getA S.chains q.1).isSome = true
  he : ∀ q ∈ S.held, q.2 < S.vals.length
/-! ### plots -/
def optD : Option Str → PyData
  | none => .none
  | some x => .str x
def encP (q : Str × Option Str) : PyData := .tuple [.str q.1, optD q.2]
def encPs (ps : List (Str × Option Str)) : PyData := .list (ps.map encP)
/-- texts fit to be compared -/
def okP (q : Str × Option Str) : Bool := PyData.strOk q.1 && (match q.2 with | none => true | some o => PyData.strOk o)
/-- the plot and those around it, from the inside out -/
def outGo : List (Str × Option Str) → Option Str → List Str
  | [], _ => []
  | q :: r, w => if w = some q.1 then q.1 :: outGo r q.2 else outGo r w
def outM (ps : List (Str × Option Str)) (x : Str) : List Str := outGo ps.reverse (some x)
def SM0 (ps : List (Str × Option Str)) : SM := { chains := ps.map fun q => (q.1, outM ps q.1), opens := [], opened := 0, given := [], told := [], held := [], vals := [] }
end PL
namespace PL
open PySem L2

/-! ### a Store's cells, changed one at a time -/
structure Moved (H H' : Hp) (fp fp' : List Addr) : Prop where
  keep : ∀ b o, H b = some o → b ∉ fp → H' b = some o
  live : ∀ b, H b ≠ none → H' b ≠ none
  newc : ∀ b ∈ fp', b ∈ fp ∨ H b = none
  nd : fp'.Nodup
theorem Moved.trans {H H1 H2 : Hp} {f f1 f2 : List Addr} (a : Moved H H1 f f1) (b : Moved H1 H2 f1 f2) : Moved H H2 f f2 := by
  refine ⟨fun c o h n => b.keep c o (a.keep c o h n) fun m => ?_, fun c h => b.live c (a.live c h), fun c m => ?_, b.nd⟩
  · rcases a.newc c m with m2 | m2
    · exact n m2
    · rw [m2] at h
      cases h
  · rcases b.newc c m with m2 | m2
    · exact a.newc c m2
    · right
      cases q : H c with
      | none => rfl
      | some o => exact absurd m2 (a.live c (by rw [q]; exact fun z => nomatch z))
theorem Moved.refl {H : Hp} {f : List Addr} (nd : f.Nodup) : Moved H H f f := ⟨fun _ _ h _ => h, fun _ h => h, fun _ m => .inl m, nd⟩
/-- one cell of fp is written -/
theorem Moved.wr {H : Hp} {f : List Addr} {c : Addr} {o : HO} (nd : f.Nodup) (m : c ∈ f) : Moved H (upd H c o) f f :=
  ⟨fun b u h n => by rw [upd_ne (fun (e : b = c) => n (e ▸ m))]; exact h, fun b h => by
    by_cases e : b = c
    · rw [e, upd_same]
      exact fun z => nomatch z
    · rw [upd_ne e]
      exact h, fun _ m => .inl m, nd⟩
theorem ListsAt.wr {H : Hp} {c : Addr} {o : HO} : ∀ {as : List Addr} {xs : List (List Str)}, ListsAt H as xs → (∀ a ∈ as, a ≠ c) → ListsAt (upd H c o) as xs
  | _, _, .nil, _ => .nil
  | _, _, .cons h t, n => .cons (by rw [upd_ne (n _ (List.mem_cons_self ..))]; exact h) (t.wr fun a m => n a (List.mem_cons_of_mem _ m))
theorem ValsAt.wr {H : Hp} {CV c : Addr} {o : HO} : ∀ {as : List (Addr × Addr)} {vs : List (Str × Int × Int)}, ValsAt H CV as vs → (∀ a ∈ as, a.1 ≠ c ∧ a.2 ≠ c) → ValsAt (upd H c o) CV as vs
  | _, _, .nil, _ => .nil
  | _, _, .cons h1 h2 t, n => .cons (by rw [upd_ne (n _ (List.mem_cons_self ..)).1]; exact h1) (by rw [upd_ne (n _ (List.mem_cons_self ..)).2]; exact h2) (t.wr fun a m => n a (List.mem_cons_of_mem _ m))
theorem ValsAt.snoc {H : Hp} {CV : Addr} {a : Addr × Addr} {v : Str × Int × Int} (h1 : H a.1 = some (.ins CV a.2 (vaF v))) (h2 : H a.2 = some (.own a.1)) : ∀ {as : List (Addr × Addr)} {vs : List (Str × Int × Int)}, ValsAt H CV as vs → ValsAt H CV (as ++ [a]) (vs ++ [v])
  | _, _, .nil => .cons h1 h2 .nil
  | _, _, .cons g1 g2 t => .cons g1 g2 (t.snoc h1 h2)
/-- the i-th value is written -/
theorem ValsAt.set {H : Hp} {CV : Addr} : ∀ {as : List (Addr × Addr)} {vs : List (Str × Int × Int)} {i : Nat} {a : Addr × Addr} {f : Str × Int × Int → Str × Int × Int} {v : Str × Int × Int}, ValsAt H CV as vs → as[i]? = some a → vs[i]? = some v → (as.map (·.1) ++ as.map (·.2)).Nodup → ValsAt (upd H a.1 (.ins CV a.2 (vaF (f v)))) CV as (vs.modify i f)
  | _, _, _, _, _, _, .nil, e, _, _ => by simp at e
  | a0 :: as, v0 :: vs, 0, _, f, _, .cons h1 h2 t, e, e2, nd => by
    simp at e e2
    subst e e2
    have n1 : ∀ b ∈ as, b.1 ≠ a0.1 ∧ b.2 ≠ a0.1 := fun b m => by
      rw [List.map_cons, List.cons_append, List.nodup_cons] at nd
      refine ⟨fun q => nd.1 (List.mem_append_left _ (q ▸ List.mem_map_of_mem m)), fun q => nd.1 (List.mem_append_right _ (List.mem_cons_of_mem _ (q ▸ List.mem_map_of_mem m)))⟩
    have n2 : a0.2 ≠ a0.1 := fun q => by
      rw [List.map_cons, List.cons_append, List.nodup_cons] at nd
      exact nd.1 (List.mem_append_right _ (by rw [List.map_cons, q]; exact List.mem_cons_self ..))
    exact .cons upd_same (by rw [upd_ne n2]; exact h2) (t.wr n1)
  | a0 :: as, v0 :: vs, i + 1, a, f, v, .cons h1 h2 t, e, e2, nd => by
    have e' : as[i]? = some a := by simpa using e
    have e2' : vs[i]? = some v := by simpa using e2
    have ma : a ∈ as := List.mem_of_getElem? e'
    have nd' : (as.map (·.1) ++ as.map (·.2)).Nodup := by
      rw [List.map_cons, List.cons_append, List.nodup_cons] at nd
      have h := nd.2
      rw [List.map_cons] at h
      exact h.sublist (List.Sublist.append (List.Sublist.refl _) (List.sublist_cons_self ..))
    have n1 : a0.1 ≠ a.1 := fun q => by
      rw [List.map_cons, List.cons_append, List.nodup_cons] at nd
      exact nd.1 (List.mem_append_left _ (q ▸ List.mem_map_of_mem ma))
    have n2 : a0.2 ≠ a.1 := fun q => by
      rw [List.map_cons, List.cons_append, List.nodup_cons, List.map_cons] at nd
      have h := List.nodup_append.mp nd.2
      exact h.2.2 a.1 (List.mem_map_of_mem ma) a0.2 (List.mem_cons_self ..) q.symm
    have g := ValsAt.set (f := f) t e' e2' nd'
    rw [List.modify_succ_cons]
    exact .cons (by rw [upd_ne n1]; exact h1) (by rw [upd_ne n2]; exact h2) g
/-- that the cells are apart, one by one -/
structure Apart (p dx at_ ag ac ao ah : Addr) (cas : List Addr) (vas : List (Addr × Addr)) : Prop where
  h : (p ≠ dx ∧ p ≠ at_ ∧ p ≠ ag ∧ p ≠ ac ∧ p ≠ ao ∧ p ≠ ah) ∧ (dx ≠ at_ ∧ dx ≠ ag ∧ dx ≠ ac ∧ dx ≠ ao ∧ dx ≠ ah) ∧ (at_ ≠ ag ∧ at_ ≠ ac ∧ at_ ≠ ao ∧ at_ ≠ ah) ∧ (ag ≠ ac ∧ ag ≠ ao ∧ ag ≠ ah) ∧ (ac ≠ ao ∧ ac ≠ ah) ∧ ao ≠ ah
  c : ∀ a ∈ cas, a ≠ p ∧ a ≠ dx ∧ a ≠ at_ ∧ a ≠ ag ∧ a ≠ ac ∧ a ≠ ao ∧ a ≠ ah
  v : ∀ a ∈ vas, (a.1 ≠ p ∧ a.1 ≠ dx ∧ a.1 ≠ at_ ∧ a.1 ≠ ag ∧ a.1 ≠ ac ∧ a.1 ≠ ao ∧ a.1 ≠ ah) ∧ (a.2 ≠ p ∧ a.2 ≠ dx ∧ a.2 ≠ at_ ∧ a.2 ≠ ag ∧ a.2 ≠ ac ∧ a.2 ≠ ao ∧ a.2 ≠ ah)
  cv : ∀ a ∈ cas, ∀ b ∈ vas, a ≠ b.1 ∧ a ≠ b.2
  vv : (vas.map (·.1) ++ vas.map (·.2)).Nodup
theorem apart {p dx at_ ag ac ao ah : Addr} {cas : List Addr} {vas : List (Addr × Addr)} (nd : (stFp p dx at_ ag ac ao ah cas vas).Nodup) : Apart p dx at_ ag ac ao ah cas vas := by
  unfold stFp at nd
  simp only [List.nodup_cons, List.mem_cons, List.mem_append, not_or] at nd
  obtain ⟨⟨a1, a2, a3, a4, a5, a6, a7, a8, a9⟩, ⟨b1, b2, b3, b4, b5, b6, b7, b8⟩, ⟨c1, c2, c3, c4, c5, c6, c7⟩, ⟨d1, d2, d3, d4, d5, d6⟩, ⟨e1, e2, e3, e4, e5⟩, ⟨f1, f2, f3, f4⟩, ⟨g1, g2, g3⟩, nd⟩ := nd
  have nd2 := List.nodup_append.mp nd
  refine ⟨⟨⟨a1, a2, a3, a4, a5, a6⟩, ⟨b1, b2, b3, b4, b5⟩, ⟨c1, c2, c3, c4⟩, ⟨d1, d2, d3⟩, ⟨e1, e2⟩, f1⟩, fun a m => ?_, fun a m => ⟨?_, ?_⟩, fun a m b mb => ?_, nd2.2.1⟩
  · refine ⟨?_, ?_, ?_, ?_, ?_, ?_, ?_⟩ <;> (intro q; subst q; contradiction)
  · have m1 := List.mem_map_of_mem (f := (·.1)) m
    refine ⟨?_, ?_, ?_, ?_, ?_, ?_, ?_⟩ <;> (intro q; rw [q] at m1; contradiction)
  · have m1 := List.mem_map_of_mem (f := (·.2)) m
    refine ⟨?_, ?_, ?_, ?_, ?_, ?_, ?_⟩ <;> (intro q; rw [q] at m1; contradiction)
  · exact ⟨fun q => nd2.2.2 a m b.1 (List.mem_append_left _ (List.mem_map_of_mem mb)) q, fun q => nd2.2.2 a m b.2 (List.mem_append_right _ (List.mem_map_of_mem mb)) q⟩
section
variable {H : Hp} {C CV p dx at_ ag ac ao ah : Addr} {cas : List Addr} {vas : List (Addr × Addr)} {S : SM}
theorem StAt.setO (h : StAt H C CV p dx at_ ag ac ao ah cas vas S) (A : Apart p dx at_ ag ac ao ah cas vas) (os : List (Str × Int)) : StAt (upd H ao (.dK (kvs V.int os))) C CV p dx at_ ag ac ao ah cas vas { S with opens := os } := by
  obtain ⟨⟨_, _, _, _, q1, _⟩, ⟨_, _, _, q2, _⟩, ⟨_, _, q3, _⟩, ⟨_, q4, _⟩, ⟨q5, _⟩, q6⟩ := A.h
  exact ⟨by rw [upd_ne q1]; exact h.hp, by rw [upd_ne q2]; exact h.hdx, by rw [upd_ne q3]; exact h.ht, by rw [upd_ne q4]; exact h.hg, by rw [upd_ne q5]; exact h.hc, h.hcs.wr fun a m => (A.c a m).2.2.2.2.2.1, upd_same, by rw [upd_ne (fun e => q6 e.symm)]; exact h.hh, h.hv.wr fun a m => ⟨(A.v a m).1.2.2.2.2.2.1, (A.v a m).2.2.2.2.2.2.1⟩, h.hr⟩
theorem StAt.setH (h : StAt H C CV p dx at_ ag ac ao ah cas vas S) (A : Apart p dx at_ ag ac ao ah cas vas) (hs : List (Str × Nat)) (hr : ∀ q ∈ hs, q.2 < S.vals.length) : StAt (upd H ah (.dK (hs.map fun q => (kS q.1, V.ref ((vas.map (·.1)).getD q.2 0))))) C CV p dx at_ ag ac ao ah cas vas { S with held := hs } := by
  obtain ⟨⟨_, _, _, _, _, q1⟩, ⟨_, _, _, _, q2⟩, ⟨_, _, _, q3⟩, ⟨_, _, q4⟩, ⟨_, q5⟩, q6⟩ := A.h
  exact ⟨by rw [upd_ne q1]; exact h.hp, by rw [upd_ne q2]; exact h.hdx, by rw [upd_ne q3]; exact h.ht, by rw [upd_ne q4]; exact h.hg, by rw [upd_ne q5]; exact h.hc, h.hcs.wr fun a m => (A.c a m).2.2.2.2.2.2, by rw [upd_ne q6]; exact h.ho, upd_same, h.hv.wr fun a m => ⟨(A.v a m).1.2.2.2.2.2.2, (A.v a m).2.2.2.2.2.2.2⟩, hr⟩
theorem StAt.setP (h : StAt H C CV p dx at_ ag ac ao ah cas vas S) (A : Apart p dx at_ ag ac ao ah cas vas) (n : Int) : StAt (upd H p (.ins C dx (stF at_ ag ac ao ah n))) C CV p dx at_ ag ac ao ah cas vas { S with opened := n } := by
  obtain ⟨⟨q1, q2, q3, q4, q5, q6⟩, _⟩ := A.h
  exact ⟨upd_same, by rw [upd_ne q1.symm]; exact h.hdx, by rw [upd_ne q2.symm]; exact h.ht, by rw [upd_ne q3.symm]; exact h.hg, by rw [upd_ne q4.symm]; exact h.hc, h.hcs.wr fun a m => (A.c a m).1, by rw [upd_ne q5.symm]; exact h.ho, by rw [upd_ne q6.symm]; exact h.hh, h.hv.wr fun a m => ⟨(A.v a m).1.1, (A.v a m).2.1⟩, h.hr⟩
theorem StAt.setT (h : StAt H C CV p dx at_ ag ac ao ah cas vas S) (A : Apart p dx at_ ag ac ao ah cas vas) (ts : List Int) : StAt (upd H at_ (.lst (ts.map V.int))) C CV p dx at_ ag ac ao ah cas vas { S with told := ts } := by
  obtain ⟨⟨_, q1, _⟩, ⟨q2, _⟩, ⟨q3, q4, q5, q6⟩, _⟩ := A.h
  exact ⟨by rw [upd_ne q1]; exact h.hp, by rw [upd_ne q2]; exact h.hdx, upd_same, by rw [upd_ne q3.symm]; exact h.hg, by rw [upd_ne q4.symm]; exact h.hc, h.hcs.wr fun a m => (A.c a m).2.2.1, by rw [upd_ne q5.symm]; exact h.ho, by rw [upd_ne q6.symm]; exact h.hh, h.hv.wr fun a m => ⟨(A.v a m).1.2.2.1, (A.v a m).2.2.2.1⟩, h.hr⟩
theorem StAt.setG (h : StAt H C CV p dx at_ ag ac ao ah cas vas S) (A : Apart p dx at_ ag ac ao ah cas vas) (gs : List Int) : StAt (upd H ag (.lst (gs.map V.int))) C CV p dx at_ ag ac ao ah cas vas { S with given := gs } := by
  obtain ⟨⟨_, _, q1, _⟩, ⟨_, q2, _⟩, ⟨q3, _⟩, ⟨q4, q5, q6⟩, _⟩ := A.h
  exact ⟨by rw [upd_ne q1]; exact h.hp, by rw [upd_ne q2]; exact h.hdx, by rw [upd_ne q3]; exact h.ht, upd_same, by rw [upd_ne q4.symm]; exact h.hc, h.hcs.wr fun a m => (A.c a m).2.2.2.1, by rw [upd_ne q5.symm]; exact h.ho, by rw [upd_ne q6.symm]; exact h.hh, h.hv.wr fun a m => ⟨(A.v a m).1.2.2.2.1, (A.v a m).2.2.2.2.1⟩, h.hr⟩
theorem StAt.setV (h : StAt H C CV p dx at_ ag ac ao ah cas vas S) (A : Apart p dx at_ ag ac ao ah cas vas) {i : Nat} {a : Addr × Addr} {v : Str × Int × Int} (f : Str × Int × Int → Str × Int × Int) (ha : vas[i]? = some a) (hv : S.vals[i]? = some v) : StAt (upd H a.1 (.ins CV a.2 (vaF (f v)))) C CV p dx at_ ag ac ao ah cas vas { S with vals := S.vals.modify i f } := by
  have m : a ∈ vas := List.mem_of_getElem? ha
  obtain ⟨q1, q2, q3, q4, q5, q6, q7⟩ := (A.v a m).1
  exact ⟨by rw [upd_ne q1.symm]; exact h.hp, by rw [upd_ne q2.symm]; exact h.hdx, by rw [upd_ne q3.symm]; exact h.ht, by rw [upd_ne q4.symm]; exact h.hg, by rw [upd_ne q5.symm]; exact h.hc, h.hcs.wr fun b mb => (A.cv b mb a m).1, by rw [upd_ne q6.symm]; exact h.ho, by rw [upd_ne q7.symm]; exact h.hh, h.hv.set ha hv A.vv, fun q mq => by rw [List.length_modify]; exact h.hr q mq⟩
/-- a new object aside -/
theorem StAt.new (h : StAt H C CV p dx at_ ag ac ao ah cas vas S) {b : Addr} {o : HO} (hb : H b = none) : StAt (upd H b o) C CV p dx at_ ag ac ao ah cas vas S := by
  have nz : ∀ {c : Addr} {u : HO}, H c = some u → (upd H b o) c = some u := fun hc => by rw [upd_ne (ne_of_none hc hb)]; exact hc
  have lz : ∀ {as : List Addr} {xs : List (List Str)}, ListsAt H as xs → ListsAt (L2.upd H b o) as xs := fun l => by
    induction l with
    | nil => exact .nil
    | cons h _ ih => exact .cons (nz h) ih
  have vz : ∀ {as : List (Addr × Addr)} {vs : List (Str × Int × Int)}, ValsAt H CV as vs → ValsAt (L2.upd H b o) CV as vs := fun l => by
    induction l with
    | nil => exact .nil
    | cons h g _ ih => exact .cons (nz h) (nz g) ih
  exact ⟨nz h.hp, nz h.hdx, nz h.ht, nz h.hg, nz h.hc, lz h.hcs, nz h.ho, nz h.hh, vz h.hv, h.hr⟩
theorem valsLen (h : StAt H C CV p dx at_ ag ac ao ah cas vas S) : vas.length = S.vals.length := by
  have : ∀ {as : List (Addr × Addr)} {vs : List (Str × Int × Int)}, ValsAt H CV as vs → as.length = vs.length := fun l => by
    induction l with
    | nil => rfl
    | cons _ _ _ ih => rw [List.length_cons, List.length_cons, ih]
  exact this h.hv
/-- a new value, no name's yet -/
theorem StAt.addV (h : StAt H C CV p dx at_ ag ac ao ah cas vas S) {a : Addr × Addr} {v : Str × Int × Int} (h1 : H a.1 = some (.ins CV a.2 (vaF v))) (h2 : H a.2 = some (.own a.1)) : StAt H C CV p dx at_ ag ac ao ah cas (vas ++ [a]) { S with vals := S.vals ++ [v] } := by
  refine ⟨h.hp, h.hdx, h.ht, h.hg, h.hc, h.hcs, h.ho, ?_, h.hv.snoc h1 h2, fun q m => ?_⟩
  · have : (S.held.map fun q => (kS q.1, V.ref (((vas ++ [a]).map (·.1)).getD q.2 0))) = S.held.map fun q => (kS q.1, V.ref ((vas.map (·.1)).getD q.2 0)) := by
      apply List.map_congr_left
      intro q m
      have hq := h.hr q m
      rw [← valsLen h] at hq
      have : ((vas ++ [a]).map (·.1)).getD q.2 0 = (vas.map (·.1)).getD q.2 0 := by
        rw [List.getD_eq_getElem?_getD, List.getD_eq_getElem?_getD, List.map_append, List.getElem?_append_left (by rw [List.length_map]; exact hq)]
      rw [this]
    rw [this]
    exact h.hh
  · rw [List.length_append]
    have := h.hr q m
    omega
end
end PL
namespace PL
open PySem L2 PySem.Spec PyProof.Rows

def hidL (O : Hid) (fp : List Addr) : Hid := fun a => O a || decide (a ∈ fp)
theorem hidL_mem {O : Hid} {fp : List Addr} {a : Addr} (m : a ∈ fp) : hidL O fp a = true := by unfold hidL; simp [m]
theorem hidL_of {O : Hid} {fp : List Addr} {a : Addr} (h : O a = true) : hidL O fp a = true := by unfold hidL; rw [h]; rfl
theorem hidL_or {O : Hid} {fp : List Addr} {a : Addr} (h : hidL O fp a = true) : O a = true ∨ a ∈ fp := by
  unfold hidL at h
  simpa using h
section
variable {K : PySem.W.Frag} {base : Hp} {O0 O : Hid} {σ : L2.St} {H H' : Hp} {env : PL.Env}
/-- what is seen stays seen when fp' is hidden besides, and all but fp stays -/
theorem vis_moved {fp fp' : List Addr} (keep : ∀ b o, H b = some o → b ∉ fp → H' b = some o) (newc : ∀ b ∈ fp', b ∈ fp ∨ H b = none) (hf : ∀ a ∈ fp, O a = true) : PL.Ex (vis O H) (vis (hidL O fp') H') := fun b o hb => by
  have h1 := vis_le b o hb
  have nb : O b = false := by
    cases z : O b with
    | false => rfl
    | true =>
      unfold vis at hb
      rw [if_pos z] at hb
      cases hb
  have nf : b ∉ fp := fun m => by rw [hf b m] at nb; cases nb
  refine vis_at ?_ (keep b o h1 nf)
  cases z : hidL O fp' b with
  | false => rfl
  | true =>
    rcases hidL_or z with z | z
    · rw [z] at nb; cases nb
    · rcases newc b z with m | m
      · exact absurd m nf
      · rw [m] at h1; cases h1
/-- a new object becomes hidden, slot i holds it -/
theorem Sat.setOb {i : Nat} {v : V} {fp : List Addr} {s : ObS} (S : Sat K base O0 O σ H env) (e : PL.Ex H H') (fr : ∀ b ∈ fp, H b = none) (r : ObR K v fp H' (vis (hidL O fp) H') s) (hi : i < env.length) : Sat K base O0 (hidL O fp) (σ.set i (some v)) H' (env.set i (.ob s)) := by
  obtain ⟨fps, S⟩ := S
  have bn : ∀ b ∈ fp, base b = none := fun b m => S.ex.free (fr b m)
  have np : ∀ j, ∀ a ∈ fps j, a ∉ fp := fun j a m q => S.all a (S.cells j a m).1 (fr a q)
  refine ⟨_, S.put (O' := hidL O fp) (H' := H') (fp := fp) (S.ex.trans e) (vis_moved (fp := []) (fun b o hb _ => e b o hb) (fun b m => .inr (fr b m)) (fun a m => nomatch m)) (fun a q => ?_) (fun a q => hidL_of (S.sub a q)) (fun a q z => ?_) (fun j n a m => ⟨keeps (S.all a (S.cells j a m).1) e, hidL_of (S.cells j a m).1, np j a m⟩) ⟨v, rfl, fun a m => ⟨hidL_mem m, bn a m⟩, r⟩ hi⟩
  · rcases hidL_or q with q | q
    · exact S.new a q
    · exact .inr (bn a q)
  · rcases hidL_or q with q | q
    · exact S.all a q (e.free z)
    · exact r.2.1 a q z
/-- the object of slot i is changed -/
theorem Sat.mutOb {i : Nat} {s : ObS} (S : Sat K base O0 O σ H env) (hi : env[i]? = some (.ob s)) : ∃ v fp, σ[i]? = some (some v) ∧ (∀ a ∈ fp, O a = true ∧ base a = none) ∧ ObR K v fp H (vis O H) s ∧
    ∀ (H' : Hp) (fp' : List Addr) (s' : ObS), Moved H H' fp fp' → ObR K v fp' H' (vis (hidL O fp') H') s' → PL.Ex (vis O H) (vis (hidL O fp') H') ∧ Sat K base O0 (hidL O fp') σ H' (env.set i (.ob s')) := by
  obtain ⟨fps, S⟩ := S
  have hil : i < env.length := (List.getElem?_eq_some_iff.mp hi).1
  have hs : i < σ.length := by rw [S.len]; exact hil
  obtain ⟨v, hx, oa, r⟩ := S.sl i _ _ (List.getElem?_eq_getElem hs) hi
  have hx' : σ[i]? = some (some v) := by rw [List.getElem?_eq_getElem hs, hx]
  refine ⟨v, fps i, hx', oa, r, fun H' fp' s' M r' => ?_⟩
  have ev := vis_moved (O := O) M.keep M.newc (fun a m => (oa a m).1)
  have es_ : σ.set i (some v) = σ := by
    apply List.ext_getElem?
    intro k
    by_cases q : i = k
    · subst q
      rw [List.getElem?_set_self hs, hx']
    · rw [List.getElem?_set_ne q]
  have g := S.put (O' := hidL O fp') (H' := H') (fp := fp') (i := i) (x := some v) (s := .ob s') (fun b o hb => M.keep b o (S.ex b o hb) fun m => by rw [(oa b m).2] at hb; cases hb) ev (fun a q => by
      rcases hidL_or q with q | q
      · exact S.new a q
      · rcases M.newc a q with m | m
        · exact .inr (oa a m).2
        · exact .inr (S.ex.free m)) (fun a q => hidL_of (S.sub a q)) (fun a q => by
      rcases hidL_or q with q | q
      · exact M.live a (S.all a q)
      · exact r'.2.1 a q)
    (fun j n a m => by
      have nf : a ∉ fps i := fun q => S.sep j i a n m q
      have la := S.all a (S.cells j a m).1
      refine ⟨?_, hidL_of (S.cells j a m).1, fun q => ?_⟩
      · cases z : H a with
        | none => exact absurd z la
        | some o => exact M.keep a o z nf
      · rcases M.newc a q with z | z
        · exact nf z
        · exact la z) ⟨v, rfl, fun a m => ⟨hidL_mem m, (by
      rcases M.newc a m with z | z
      · exact (oa a z).2
      · exact S.ex.free z)⟩, r'⟩ hil
  rw [es_] at g
  exact ⟨ev, _, g⟩
/-! ### Stores -/
theorem StAt.sub {H H' : Hp} {C CV p dx at_ ag ac ao ah : Addr} {cas : List Addr} {vas : List (Addr × Addr)} {S : SM} (h : StAt H C CV p dx at_ ag ac ao ah cas vas S) (m : ∀ a ∈ stFp p dx at_ ag ac ao ah cas vas, ∀ o, H a = some o → H' a = some o) : StAt H' C CV p dx at_ ag ac ao ah cas vas S := by
  unfold stFp at m
  have lz : ∀ {as : List Addr} {xs : List (List Str)}, ListsAt H as xs → (∀ a ∈ as, ∀ o, H a = some o → H' a = some o) → ListsAt H' as xs := fun l => by
    induction l with
    | nil => exact fun _ => .nil
    | cons g _ ih => exact fun z => .cons (z _ (List.mem_cons_self ..) _ g) (ih fun a m => z a (List.mem_cons_of_mem _ m))
  have vz : ∀ {as : List (Addr × Addr)} {vs : List (Str × Int × Int)}, ValsAt H CV as vs → (∀ a ∈ as, (∀ o, H a.1 = some o → H' a.1 = some o) ∧ ∀ o, H a.2 = some o → H' a.2 = some o) → ValsAt H' CV as vs := fun l => by
    induction l with
    | nil => exact fun _ => .nil
    | cons g k _ ih => exact fun z => .cons ((z _ (List.mem_cons_self ..)).1 _ g) ((z _ (List.mem_cons_self ..)).2 _ k) (ih fun a m => z a (List.mem_cons_of_mem _ m))
  refine ⟨m p (by simp) _ h.hp, m dx (by simp) _ h.hdx, m at_ (by simp) _ h.ht, m ag (by simp) _ h.hg, m ac (by simp) _ h.hc, lz h.hcs fun a ma => m a (by simp [ma]), m ao (by simp) _ h.ho, m ah (by simp) _ h.hh, vz h.hv fun a ma => ⟨m a.1 ?_, m a.2 ?_⟩, h.hr⟩
  · simp only [List.mem_cons, List.mem_append]
    exact .inr (.inr (.inr (.inr (.inr (.inr (.inr (.inr (.inl (List.mem_map_of_mem ma)))))))))
  · simp only [List.mem_cons, List.mem_append]
    exact .inr (.inr (.inr (.inr (.inr (.inr (.inr (.inr (.inr (List.mem_map_of_mem ma)))))))))
theorem StAt.live {H : Hp} {C CV p dx at_ ag ac ao ah : Addr} {cas : List Addr} {vas : List (Addr × Addr)} {S : SM} (h : StAt H C CV p dx at_ ag ac ao ah cas vas S) : ∀ a ∈ stFp p dx at_ ag ac ao ah cas vas, H a ≠ none := fun b m => by
  have hb : ∃ o, H b = some o := by
    unfold stFp at m
    simp only [List.mem_cons, List.mem_append, List.mem_map] at m
    rcases m with rfl | rfl | rfl | rfl | rfl | rfl | rfl | m | ⟨c, m, rfl⟩ | ⟨c, m, rfl⟩
    · exact ⟨_, h.hp⟩
    · exact ⟨_, h.hdx⟩
    · exact ⟨_, h.ht⟩
    · exact ⟨_, h.hg⟩
    · exact ⟨_, h.hc⟩
    · exact ⟨_, h.ho⟩
    · exact ⟨_, h.hh⟩
    · have : ∀ {as : List Addr} {xs : List (List Str)}, ListsAt H as xs → b ∈ as → ∃ o, H b = some o := fun l => by
        induction l with
        | nil => exact fun z => nomatch z
        | cons g _ ih => exact fun z => (List.mem_cons.mp z).elim (fun e => ⟨_, e ▸ g⟩) ih
      exact this h.hcs m
    · have : ∀ {as : List (Addr × Addr)} {vs : List (Str × Int × Int)}, ValsAt H CV as vs → c ∈ as → ∃ o, H c.1 = some o := fun l => by
        induction l with
        | nil => exact fun z => nomatch z
        | cons g _ _ ih => exact fun z => (List.mem_cons.mp z).elim (fun e => ⟨_, e ▸ g⟩) ih
      exact this h.hv m
    · have : ∀ {as : List (Addr × Addr)} {vs : List (Str × Int × Int)}, ValsAt H CV as vs → c ∈ as → ∃ o, H c.2 = some o := fun l => by
        induction l with
        | nil => exact fun z => nomatch z
        | cons _ g _ ih => exact fun z => (List.mem_cons.mp z).elim (fun e => ⟨_, e ▸ g⟩) ih
      exact this h.hv m
  obtain ⟨o, hb⟩ := hb
  rw [hb]
  exact fun z => nomatch z
theorem obr_st {B : Hp} {C CV p dx at_ ag ac ao ah : Addr} {cas : List Addr} {vas : List (Addr × Addr)} {S : SM} (h : StAt H C CV p dx at_ ag ac ao ah cas vas S) (nd : (stFp p dx at_ ag ac ao ah cas vas).Nodup) : ObR K (.ref p) (stFp p dx at_ ag ac ao ah cas vas) H B (.st C CV S) :=
  ⟨nd, h.live, p, dx, at_, ag, ac, ao, ah, cas, vas, rfl, rfl, h.sub fun a m o ho => rst_at m ho⟩
theorem st_obr {B : Hp} {v : V} {fp : List Addr} {C CV : Addr} {S : SM} (r : ObR K v fp H B (.st C CV S)) : ∃ p dx at_ ag ac ao ah cas vas, v = .ref p ∧ fp = stFp p dx at_ ag ac ao ah cas vas ∧ StAt H C CV p dx at_ ag ac ao ah cas vas S ∧ (stFp p dx at_ ag ac ao ah cas vas).Nodup := by
  obtain ⟨nd, _, p, dx, at_, ag, ac, ao, ah, cas, vas, rfl, rfl, h⟩ := r
  exact ⟨p, dx, at_, ag, ac, ao, ah, cas, vas, rfl, rfl, h.sub fun a m o ho => (rst_some ho).2, nd⟩
end
end PL
namespace PL
open PySem L2 PySem.Spec PyProof.Rows
/-! ### plots as data -/
def decP : PyData → Option (Str × Option Str)
  | .tuple [.str n, .none] => some (n, none)
  | .tuple [.str n, .str o] => some (n, some o)
  | _ => none
def decL {α : Type} (f : PyData → Option α) : List PyData → Option (List α)
  | [] => some []
  | d :: ds => (f d).bind fun x => (decL f ds).map (x :: ·)
def decPs : PyData → Option (List (Str × Option Str))
  | .list ds => decL decP ds
  | _ => none
theorem decP_enc (q : Str × Option Str) : decP (encP q) = some q := by
  obtain ⟨n, o⟩ := q
  cases o <;> rfl
theorem enc_decP {d : PyData} {q : Str × Option Str} (h : decP d = some q) : d = encP q := by
  unfold decP at h
  split at h
  · cases h
    rfl
  · cases h
    rfl
  · cases h
theorem decL_map {α : Type} {f : PyData → Option α} {g : α → PyData} (h : ∀ a, f (g a) = some a) : ∀ l : List α, decL f (l.map g) = some l
  | [] => rfl
  | a :: l => by
    show (f (g a)).bind (fun x => (decL f (l.map g)).map (x :: ·)) = _
    rw [h, decL_map h l]
    rfl
theorem decL_inv {α : Type} {f : PyData → Option α} {g : α → PyData} (h : ∀ d a, f d = some a → d = g a) : ∀ {ds : List PyData} {l : List α}, decL f ds = some l → ds = l.map g
  | [], l, e => by cases e; rfl
  | d :: ds, l, e => by
    have e' : (f d).bind (fun x => (decL f ds).map (x :: ·)) = some l := e
    cases k : f d with
    | none => rw [k] at e'; cases e'
    | some a =>
      cases k2 : decL f ds with
      | none => rw [k, k2] at e'; cases e'
      | some r =>
        rw [k, k2] at e'
        cases e'
        rw [h d a k, decL_inv h k2]
        rfl
theorem decPs_enc (ps : List (Str × Option Str)) : decPs (encPs ps) = some ps := decL_map decP_enc ps
theorem enc_decPs {d : PyData} {ps : List (Str × Option Str)} (h : decPs d = some ps) : d = encPs ps := by
  unfold decPs at h
  split at h
  · exact congrArg PyData.list (decL_inv (fun _ _ => enc_decP) h)
  · cases h
/-! ### sorted of ints, list(range(n)) -/
def asInts : List PyData → Option (List Int) := decL asI
theorem asInts_inv {ds : List PyData} {l : List Int} (h : asInts ds = some l) : ds = l.map PyData.int := decL_inv (fun d a e => by
  unfold asI at e
  split at e
  · cases e; rfl
  · cases e) h
theorem rp_ints {K : PySem.W.Frag} {H : Hp} : ∀ {ws : List V} {l : List Int}, RpAll K H ws (l.map PyData.int) → ws = l.map V.int
  | ws, [], h => by
    cases h
    rfl
  | ws, z :: l, h => by
    cases h with
    | cons r t =>
      cases r
      rw [rp_ints t]
      rfl
def nSorted (f : PL.Env → Option (List PyData)) : PL.Env → Option (List PyData) := fun env => (f env).bind fun
  | [d] => (asLS d).bind fun ds => (asInts ds).map fun ns => (ns.mergeSort (fun a b => decide (a ≤ b))).map PyData.int
  | _ => none
theorem sorted_one {a b : List Int} (p : a.Perm b) (ha : a.Pairwise (· ≤ ·)) (hb : b.Pairwise (· ≤ ·)) : a = b :=
  List.Perm.eq_of_pairwise (fun x y _ _ h1 h2 => Int.le_antisymm h1 h2) ha hb p
section
variable {K : PySem.W.Frag} {X : Cx} {e a : Expr} {es : List Expr} {te : TE} {tr : TA} {f : PL.Env → Option PyData} {fr : PL.Env → Option (List PyData)} {p pos : Pos}
theorem ms_sorted (ns : List Int) : (ns.mergeSort (fun a b => decide (a ≤ b))).Pairwise (· ≤ ·) := by
  have h := List.pairwise_mergeSort (le := fun (a b : Int) => decide (a ≤ b)) (by intro a b c; simp; omega) (by intro a b; simp; omega) ns
  exact h.imp (by intro a b; simp)
theorem den_sorted {K : PySem.W.Frag} {tr : TA} {fr : PL.Env → Option (List PyData)} (h : DenA K tr fr) : DenN K (tCB (rSortedI K) tr) (nSorted fr) := by
  intro base O0 O σ H env ds S e Q q
  unfold nSorted at e
  cases k1 : fr env with
  | none => simp [k1] at e
  | some xs =>
    simp only [k1, Option.bind_some] at e
    split at e
    · rename_i d
      cases k2 : asLS d with
      | none => simp [k2] at e
      | some es =>
        simp only [k2, Option.bind_some] at e
        cases k3 : asInts es with
        | none => simp [k3] at e
        | some ns =>
          simp only [k3, Option.map_some] at e
          cases e
          refine h base O0 O σ H env _ S k1 _ fun vs H1 x1 r1 => ?_
          cases r1 with
          | cons o t =>
            cases t
            obtain ⟨a, ws, rfl, hs, r⟩ := asLS_opd o k2
            have he := asInts_inv k3
            subst he
            have hw := rp_ints r
            subst hw
            refine ⟨a, ns, rfl, hs, fun ns' p pm so hp => ?_⟩
            have e1 : ns' = ns.mergeSort (fun a b => decide (a ≤ b)) := sorted_one (pm.trans (List.mergeSort_perm ns _).symm) so (ms_sorted ns)
            subst e1
            exact q p _ _ (x1.free hp) (x1.trans (PL.Ex.new hp)) upd_same (RpAll.ints _)
    · cases e
theorem fSorted (hm : X.mg "sorted" = none) (hg : Gl X "sorted" := by rfl) (ha : EA K X (e :: es) tr fr) (he : starEach (e :: es) X.env = (false, eval e X.env) :: starEach es X.env := by rfl) (hpl : (backTo pos (starEach es X.env)).any (·.1) = false := by rfl) (hK : X.K = K := by rfl) :
    EN K X (.Call (.Name "sorted" p) (e :: es) [] pos) (tCB (rSortedI K) tr) (nSorted fr) := by
  subst hK
  exact ⟨pe_callB cr_sortedI hg hm (by decide +kernel) ha.pe (by decide) (by decide) he hpl, den_sorted ha.de⟩
/-- list(range(n)) -/
def nRange (f : PL.Env → Option PyData) : PL.Env → Option (List PyData) := fun env => (f env).bind fun
  | .int n => if -100000 ≤ n ∧ n ≤ 100000 then some (rgD 0 n.toNat) else none
  | _ => none
theorem rp_rg {H : Hp} (n : Int) : RpAll K H (rgV 0 n) (rgD 0 n.toNat) := by
  unfold rgV rgD
  rw [Int.sub_zero]
  generalize List.range n.toNat = l
  induction l with
  | nil => exact .nil
  | cons a r ih => exact .cons (.int _) ih
theorem fListRange {q1 q2 q3 : Pos} (hl : X.mg "list" = none) (hm : X.mg "range" = none) (ha : EO K X a te f) (hc : X.calm = true := by rfl) (hg : Gl X "range" := by rfl) (hgl : Gl X "list" := by rfl) (na : starEach [a] X.env = (false, eval a X.env) :: starEach [] X.env := by rfl)
    (nb : starEach [.Call (.Name "range" q1) [a] [] q2] X.env = (false, eval (.Call (.Name "range" q1) [a] [] q2) X.env) :: starEach [] X.env := by rfl) :
    EN K X (.Call (.Name "list" q3) [.Call (.Name "range" q1) [a] [] q2] [] pos) (tLstRg (tRg1 te)) (nRange f) := by
  refine ⟨pe_listRg hc hgl hl (prg_1 hg hm ha.pe na) nb, ?_⟩
  intro base O0 O σ H env ds S e Q q
  unfold nRange at e
  cases k1 : f env with
  | none => simp [k1] at e
  | some d =>
    simp only [k1, Option.bind_some] at e
    split at e
    · split at e
      · cases e
        rename_i n hn
        refine ha.de base O0 O σ H env _ S k1 _ fun v H1 x1 o => ⟨n, o.int, ⟨by omega, by omega, by omega, by omega, by omega⟩, fun p hp => ?_⟩
        exact q p _ _ (x1.free hp) (x1.trans (PL.Ex.new hp)) upd_same (rp_rg n)
      · cases e
    · cases e
end
end PL
/-! Plain mathematics over the functions of data. -/
namespace PL
open PySem L2

theorem lc_gen {G : PyData → PL.Env → Option PL.Env} {t : PL.Env → Option Bool} {f : PL.Env → Option PyData} {env : PL.Env} (E : PyData → PL.Env) (p : PyData → Bool) (g : PyData → PyData) : ∀ xs : List PyData, (∀ x ∈ xs, G x env = some (E x)) → (∀ x ∈ xs, t (E x) = some (p x)) → (∀ x ∈ xs, p x = true → f (E x) = some (g x)) → lcGo G t f env xs = some ((xs.filter p).map g)
  | [], _, _, _ => rfl
  | x :: xs, hG, ht, hf => by
    have ih := lc_gen E p g xs (fun y m => hG y (List.mem_cons_of_mem _ m)) (fun y m => ht y (List.mem_cons_of_mem _ m)) (fun y m => hf y (List.mem_cons_of_mem _ m))
    have m := List.mem_cons_self (a := x) (l := xs)
    unfold lcGo
    rw [hG x m, Option.bind_some, ht x m, Option.bind_some, ih]
    cases e : p x with
    | true =>
      rw [if_pos rfl, hf x m e, Option.bind_some, List.filter_cons, if_pos e]
      rfl
    | false =>
      rw [if_neg Bool.false_ne_true, List.filter_cons, if_neg (by rw [e]; decide)]
theorem lc_all {G : PyData → PL.Env → Option PL.Env} {f : PL.Env → Option PyData} {env : PL.Env} (E : PyData → PL.Env) (g : PyData → PyData) (xs : List PyData) (hG : ∀ x ∈ xs, G x env = some (E x)) (hf : ∀ x ∈ xs, f (E x) = some (g x)) : lcGo G (fun _ => some true) f env xs = some (xs.map g) := by
  rw [lc_gen E (fun _ => true) g xs hG (fun _ _ => rfl) (fun x m _ => hf x m), List.filter_eq_self.mpr (fun _ _ => rfl)]
/-- a loop whose names are told turn by turn -/
theorem for_gen {G : PyData → PL.Env → Option PL.Env} {F : PL.Env → Option Out} (E : Nat → PL.Env) : ∀ (xs : List PyData) (k : Nat), (∀ i x, xs[i]? = some x → (G x (E (k + i))).bind F = some (.nx (E (k + i + 1)))) → fGo G F xs (E k) = some (.nx (E (k + xs.length)))
  | [], k, _ => rfl
  | x :: xs, k, h => by
    have h0 := h 0 x rfl
    rw [Nat.add_zero] at h0
    unfold fGo
    cases kg : G x (E k) with
    | none => rw [kg] at h0; cases h0
    | some e1 =>
      rw [kg, Option.bind_some] at h0
      rw [Option.bind_some, h0, Option.bind_some]
      show fGo G F xs (E (k + 1)) = _
      rw [for_gen E xs (k + 1) fun i y hy => by
        have := h (i + 1) y hy
        rw [show k + (i + 1) = k + 1 + i by omega] at this
        exact this]
      rw [List.length_cons, show k + 1 + xs.length = k + (xs.length + 1) by omega]
/-- a loop by a word -/
theorem for_inv {G : PyData → PL.Env → Option PL.Env} {F : PL.Env → Option Out} (I : Nat → PL.Env → Prop) : ∀ (xs : List PyData) (k : Nat) (env : PL.Env), I k env → (∀ i x e, xs[i]? = some x → I (k + i) e → ∃ e', ((G x e).bind F = some (.nx e') ∨ (G x e).bind F = some (.ct e')) ∧ I (k + i + 1) e') → ∃ e', fGo G F xs env = some (.nx e') ∧ I (k + xs.length) e'
  | [], k, env, h0, _ => ⟨env, rfl, h0⟩
  | x :: xs, k, env, h0, h => by
    obtain ⟨e1, h1, h2⟩ := h 0 x env rfl (by rw [Nat.add_zero]; exact h0)
    rw [Nat.add_zero] at h2
    have hg : ∃ e0, G x env = some e0 ∧ (F e0 = some (.nx e1) ∨ F e0 = some (.ct e1)) := by
      cases kg : G x env with
      | none => rw [kg] at h1; rcases h1 with h1 | h1 <;> cases h1
      | some e0 => rw [kg] at h1; exact ⟨e0, rfl, h1⟩
    obtain ⟨e0, kg, hf⟩ := hg
    obtain ⟨e2, h3, h4⟩ := for_inv I xs (k + 1) e1 h2 fun i y e hy hi => by
      have := h (i + 1) y e hy (by rw [show k + (i + 1) = k + 1 + i by omega]; exact hi)
      rw [show k + (i + 1) + 1 = k + 1 + i + 1 by omega] at this
      exact this
    refine ⟨e2, ?_, by rw [List.length_cons, show k + (xs.length + 1) = k + 1 + xs.length by omega]; exact h4⟩
    unfold fGo
    rw [kg, Option.bind_some]
    rcases hf with hf | hf <;> (rw [hf, Option.bind_some]; exact h3)
/-! ### texts -/
def cs (z : Str) : List Nat := z.cps.toList
theorem cs_inj {a b : Str} (h : cs a = cs b) : a = b := by
  cases a
  cases b
  congr 1
  exact Array.toList_inj.mp h
theorem cs_app (a b : Str) : cs (a ++ b) = cs a ++ cs b := by
  unfold cs
  rw [Str.cps_append, Array.toList_append]
theorem cs_len (a : Str) : (cs a).length = a.length := by
  unfold cs
  rw [Array.length_toList]
  rfl
theorem cs_cut_to (z : Str) (k : Nat) : cs (cutS z none (some (k : Int))) = (cs z).take k := by
  unfold cutS cs
  rw [HT.sIx_none, HT.sIx_nat, List.drop_zero, Nat.sub_zero]
  show (List.take (min k z.length) z.cps.toList) = _
  by_cases h : k ≤ z.length
  · rw [Nat.min_eq_left h]
  · rw [Nat.min_eq_right (by omega), List.take_of_length_le (by rw [Array.length_toList]; exact Nat.le_refl _), List.take_of_length_le (by rw [Array.length_toList]; show z.length ≤ k; omega)]
theorem cs_cut_from (z : Str) (k : Nat) : cs (cutS z (some (k : Int)) none) = (cs z).drop k := by
  unfold cutS cs
  rw [HT.sIx_none, HT.sIx_nat]
  show (List.take (z.length - min k z.length) (List.drop (min k z.length) z.cps.toList)) = _
  by_cases h : k ≤ z.length
  · rw [Nat.min_eq_left h, List.take_of_length_le]
    rw [List.length_drop, Array.length_toList]
    exact Nat.le_refl _
  · rw [Nat.min_eq_right (by omega), Nat.sub_self, List.take_zero, List.drop_eq_nil_of_le]
    rw [Array.length_toList]
    show z.length ≤ k
    omega
theorem cs_join (l : List Nat) : cs (Txt.join "" (l.map fun c => (⟨#[c]⟩ : Str))) = l := by
  rw [TL.join_eq]
  have h := TL.tl_join "" (l.map fun c => (⟨#[c]⟩ : Str))
  have : ∀ l : List Nat, TL.joinL (TL.tl "") ((l.map fun c => (⟨#[c]⟩ : Str)).map TL.tl) = l := fun l => by
    induction l with
    | nil => rfl
    | cons a r ih =>
      cases r with
      | nil => rfl
      | cons b r =>
        show [a] ++ (([] : List Nat) ++ TL.joinL (TL.tl "") (((b :: r).map fun c => (⟨#[c]⟩ : Str)).map TL.tl)) = _
        rw [ih]
        rfl
  rw [this] at h
  exact h
/-- a text of small letters, short -/
structure Nm (z : Str) : Prop where
  low : ∀ c ∈ cs z, 97 ≤ c ∧ c ≤ 122
  len : (cs z).length ≤ 8
theorem Nm.ok {z : Str} (h : Nm z) : PyData.strOk z = true := by
  unfold PyData.strOk
  rw [← Array.all_toList, List.all_eq_true]
  intro c m
  have := h.low c m
  simp
  omega
theorem shaped_str {z : Str} (h : PyData.strOk z = true) : SeqAt.shaped (.str z) = true := by
  unfold SeqAt.shaped
  have : PyData.canLay0 (.str z) = PyData.strOk z := rfl
  rw [this, h]
  rfl
theorem shaped_int (i : Int) : SeqAt.shaped (.int i) = true := rfl
theorem shaped_none : SeqAt.shaped .none = true := rfl
theorem canLayAll_iff : ∀ {ds : List PyData}, PyData.canLayAll0 ds = true ↔ ∀ d ∈ ds, d.canLay0 = true
  | [] => by simp [PyData.canLayAll0]
  | d :: ds => by
    rw [canLayAll_cons, Bool.and_eq_true, canLayAll_iff]
    simp
theorem depthAll_le {n : Nat} : ∀ {ds : List PyData}, (∀ d ∈ ds, d.depth ≤ n) → PyData.depthAll ds ≤ n
  | [], _ => Nat.zero_le _
  | d :: ds, h => by
    show max d.depth (PyData.depthAll ds) ≤ n
    have h1 := h d (List.mem_cons_self ..)
    have h2 := depthAll_le (ds := ds) fun e m => h e (List.mem_cons_of_mem _ m)
    omega
/-- fit to be compared, at most n deep -/
def Fit (n : Nat) (d : PyData) : Prop := d.canLay0 = true ∧ d.depth ≤ n
theorem Fit.sh {n : Nat} {d : PyData} (h : Fit n d) (hn : n ≤ 64) : SeqAt.shaped d = true := by
  unfold SeqAt.shaped
  rw [h.1, Bool.true_and, decide_eq_true (Nat.le_trans h.2 hn)]
theorem fit_list {n : Nat} {ds : List PyData} (h : ∀ d ∈ ds, Fit n d) : Fit (n + 1) (.list ds) := ⟨canLayAll_iff.mpr fun d m => (h d m).1, by
  show PyData.depthAll ds + 1 ≤ n + 1
  have := depthAll_le fun d m => (h d m).2
  omega⟩
theorem fit_tup {n : Nat} {ds : List PyData} (h : ∀ d ∈ ds, Fit n d) : Fit (n + 1) (.tuple ds) := ⟨canLayAll_iff.mpr fun d m => (h d m).1, by
  show PyData.depthAll ds + 1 ≤ n + 1
  have := depthAll_le fun d m => (h d m).2
  omega⟩
theorem fit_str {z : Str} (n : Nat) (h : PyData.strOk z = true) : Fit n (.str z) := ⟨h, Nat.zero_le _⟩
theorem fit_int (n : Nat) (i : Int) : Fit n (.int i) := ⟨rfl, Nat.zero_le _⟩
theorem fit_none (n : Nat) : Fit n .none := ⟨rfl, Nat.zero_le _⟩
theorem fit_bool (n : Nat) (b : Bool) : Fit n (.bool b) := ⟨rfl, Nat.zero_le _⟩
theorem eqv_str (a b : Str) : PyData.eqv (.str a) (.str b) = decide (a = b) := by
  show (a == b) = _
  rw [Bool.eq_iff_iff]
  simp
theorem eqv_int (a b : Int) : PyData.eqv (.int a) (.int b) = decide (a = b) := by
  show (a == b) = _
  rw [Bool.eq_iff_iff]
  simp
/-- what no two numbers and truths are: equal by == just where they are one -/
theorem eqvAll_refl_of {P : PyData → Prop} : ∀ {xs ys : List PyData}, (∀ x ∈ xs, ∀ y ∈ ys, (PyData.eqv x y = true ↔ x = y)) → (PyData.eqvAll xs ys = true ↔ xs = ys)
  | [], [], _ => by simp [PyData.eqvAll]
  | [], _ :: _, _ => by simp [PyData.eqvAll]
  | _ :: _, [], _ => by simp [PyData.eqvAll]
  | x :: xs, y :: ys, h => by
    show (PyData.eqv x y && PyData.eqvAll xs ys) = true ↔ _
    rw [Bool.and_eq_true, h x (List.mem_cons_self ..) y (List.mem_cons_self ..), eqvAll_refl_of (P := P) fun a m b n => h a (List.mem_cons_of_mem _ m) b (List.mem_cons_of_mem _ n)]
    simp
theorem cmul_l {i j : Int} (h : -18446744073709551616 < i ∧ i < 18446744073709551616) : cMul i j = true := by unfold cMul; exact decide_eq_true (.inl h)
theorem cmul_r {i j : Int} (h : -18446744073709551616 < j ∧ j < 18446744073709551616) : cMul i j = true := by unfold cMul; exact decide_eq_true (.inr h)
theorem cdiv_ {i j : Int} (h : 0 < j ∧ j < 1073741824) : cDiv i j = true := decide_eq_true h
theorem cmod_ {i j : Int} (h : 0 < j) : cMod i j = true := decide_eq_true h
theorem seq_asg {f : PL.Env → Option PyData} {i : Nat} {F : PL.Env → Option Out} {env : PL.Env} {d : PyData} (h : f env = some d) : sSeq (sAsg f (tgN i)) F env = F (env.set i (.sh d)) := by
  unfold sSeq sAsg
  rw [h]
  rfl
theorem mul_ev {a b : PL.Env → Option PyData} {env : PL.Env} {i j : Int} (ha : a env = some (.int i)) (hb : b env = some (.int j)) (h : cMul i j = true) : e2 (gIC cMul (· * ·)) a b env = some (.int (i * j)) := by
  unfold e2
  rw [ha, hb]
  show (if cMul i j then some (PyData.int (i * j)) else none) = _
  rw [if_pos h]
theorem div_ev {a b : PL.Env → Option PyData} {env : PL.Env} {i j : Int} (ha : a env = some (.int i)) (hb : b env = some (.int j)) (h : 0 < j ∧ j < 1073741824) : e2 (gIC cDiv (· / ·)) a b env = some (.int (i / j)) := by
  unfold e2
  rw [ha, hb]
  show (if cDiv i j then some (PyData.int (i / j)) else none) = _
  rw [if_pos (cdiv_ h)]
theorem mod_ev {a b : PL.Env → Option PyData} {env : PL.Env} {i j : Int} (ha : a env = some (.int i)) (hb : b env = some (.int j)) (h : 0 < j) : e2 (gIC cMod (· % ·)) a b env = some (.int (i % j)) := by
  unfold e2
  rw [ha, hb]
  show (if cMod i j then some (PyData.int (i % j)) else none) = _
  rw [if_pos (cmod_ h)]
theorem add_ev {a b : PL.Env → Option PyData} {env : PL.Env} {i j : Int} (ha : a env = some (.int i)) (hb : b env = some (.int j)) : e2 gAdd a b env = some (.int (i + j)) := by
  unfold e2
  rw [ha, hb]
  rfl
theorem sub_ev {a b : PL.Env → Option PyData} {env : PL.Env} {i j : Int} (ha : a env = some (.int i)) (hb : b env = some (.int j)) : e2 (gI (· - ·)) a b env = some (.int (i - j)) := by
  unfold e2
  rw [ha, hb]
  rfl
theorem cat_ev {a b : PL.Env → Option PyData} {env : PL.Env} {x y : Str} (ha : a env = some (.str x)) (hb : b env = some (.str y)) (h : x.length + y.length ≤ 100000) : e2 gAdd a b env = some (.str (x ++ y)) := by
  unfold e2
  rw [ha, hb]
  show (if x.length + y.length ≤ 100000 then some (PyData.str (x ++ y)) else none) = _
  rw [if_pos h]
theorem eqi_ev {a b : PL.Env → Option PyData} {env : PL.Env} {i j : Int} (ha : a env = some (.int i)) (hb : b env = some (.int j)) : tE (e2 gEq a b) env = some (decide (i = j)) := by
  unfold tE e2
  rw [ha, hb]
  show (some (PyData.bool (PyData.eqv (.int i) (.int j)))).bind asB = _
  rw [eqv_int]
  rfl
theorem lent_ev {f : PL.Env → Option PyData} {env : PL.Env} {z : Str} (h : f env = some (.str z)) (hl : z.length ≤ 100000) : eA gLen (aCons f aNil) env = some (.int z.length) := by
  unfold eA aCons aNil
  rw [h]
  show (if z.length ≤ 100000 then some (PyData.int z.length) else none) = _
  rw [if_pos hl]
theorem ix_ev {a b : PL.Env → Option PyData} {env : PL.Env} {ds : List PyData} {i : Int} {d : PyData} (ha : a env = some (.list ds)) (hb : b env = some (.int i)) (h : atI ds i = some d) : e2 gIx a b env = some d := by
  unfold e2
  rw [ha, hb]
  exact h
theorem ixt_ev {a b : PL.Env → Option PyData} {env : PL.Env} {ds : List PyData} {i : Int} {d : PyData} (ha : a env = some (.tuple ds)) (hb : b env = some (.int i)) (h : atI ds i = some d) : e2 gIx a b env = some d := by
  unfold e2
  rw [ha, hb]
  exact h
theorem atI_nat' {α : Type} {l : List α} {n : Nat} {x : α} (h : l[n]? = some x) : atI l (n : Int) = some x := by
  have hn := (List.getElem?_eq_some_iff.mp h).1
  unfold atI ixN
  rw [if_pos (by omega), if_pos (by omega)]
  exact h
theorem lt_ev {a b : PL.Env → Option PyData} {env : PL.Env} {i j : Int} (ha : a env = some (.int i)) (hb : b env = some (.int j)) : tE (e2 (gB fun i j => decide (i < j)) a b) env = some (decide (i < j)) := by
  unfold tE e2
  rw [ha, hb]
  rfl
theorem gt_ev {a b : PL.Env → Option PyData} {env : PL.Env} {i j : Int} (ha : a env = some (.int i)) (hb : b env = some (.int j)) : tE (e2 (gB fun i j => decide (j < i)) a b) env = some (decide (j < i)) := by
  unfold tE e2
  rw [ha, hb]
  rfl
theorem if_seq {t : PL.Env → Option Bool} {F F2 F3 : PL.Env → Option Out} {env : PL.Env} {b : Bool} (h : t env = some b) : sSeq (sIf t F F2) F3 env = sSeq (if b then F else F2) F3 env := by
  unfold sSeq sIf
  rw [h, Option.bind_some]
  cases b <;> rfl
theorem next_seq {F3 : PL.Env → Option Out} {env : PL.Env} : sSeq sNext F3 env = F3 env := rfl
theorem tA_ev {a b : PL.Env → Option Bool} {env : PL.Env} {x y : Bool} (ha : a env = some x) (hb : x = true → b env = some y) : tA a b env = some (x && y) := by
  unfold tA
  rw [ha, Option.bind_some]
  cases x with
  | true => exact hb rfl
  | false => rfl
theorem tO_ev {a b : PL.Env → Option Bool} {env : PL.Env} {x y : Bool} (ha : a env = some x) (hb : x = false → b env = some y) : tO a b env = some (x || y) := by
  unfold tO
  rw [ha, Option.bind_some]
  cases x with
  | false => exact hb rfl
  | true => rfl
theorem tup2_ev {a b : PL.Env → Option PyData} {env : PL.Env} {x y : PyData} (ha : a env = some x) (hb : b env = some y) : eTup (aCons a (aCons b aNil)) env = some (.tuple [x, y]) := by
  unfold eTup aCons aNil
  rw [ha, hb]
  rfl
theorem call1_ev {f : List PyData → Option PyData} {a : PL.Env → Option PyData} {env : PL.Env} {x z : PyData} (ha : a env = some x) (h : f [x] = some z) : eA (fun ds => if ds.length = 1 then f ds else none) (aCons a aNil) env = some z := by
  unfold eA aCons aNil
  rw [ha]
  exact h
theorem call2_ev {f : List PyData → Option PyData} {a b : PL.Env → Option PyData} {env : PL.Env} {x y z : PyData} (ha : a env = some x) (hb : b env = some y) (h : f [x, y] = some z) : eA (fun ds => if ds.length = 2 then f ds else none) (aCons a (aCons b aNil)) env = some z := by
  unfold eA aCons aNil
  rw [ha, hb]
  exact h
theorem call3_ev {f : List PyData → Option PyData} {a b c : PL.Env → Option PyData} {env : PL.Env} {x y u z : PyData} (ha : a env = some x) (hb : b env = some y) (hc : c env = some u) (h : f [x, y, u] = some z) : eA (fun ds => if ds.length = 3 then f ds else none) (aCons a (aCons b (aCons c aNil))) env = some z := by
  unfold eA aCons aNil
  rw [ha, hb, hc]
  exact h
theorem cut_to_ev {f g : PL.Env → Option PyData} {env : PL.Env} {z : Str} {k : Nat} (h : f env = some (.str z)) (hk : g env = some (.int (k : Int))) (hl : z.length ≤ 100000) : eSlS f oNone (oSome g) env = some (.str (cutS z none (some (k : Int)))) := by
  unfold eSlS oNone oSome
  rw [h, hk]
  show (if z.length ≤ 100000 then some (PyData.str (cutS z none (some (k : Int)))) else none) = _
  rw [if_pos hl]
theorem cut_from_ev {f g : PL.Env → Option PyData} {env : PL.Env} {z : Str} {k : Nat} (h : f env = some (.str z)) (hk : g env = some (.int (k : Int))) (hl : z.length ≤ 100000) : eSlS f (oSome g) oNone env = some (.str (cutS z (some (k : Int)) none)) := by
  unfold eSlS oNone oSome
  rw [h, hk]
  show (if z.length ≤ 100000 then some (PyData.str (cutS z (some (k : Int)) none)) else none) = _
  rw [if_pos hl]
theorem join_ev {f : PL.Env → Option (List PyData)} {env : PL.Env} {l : List Nat} (h : f env = some (l.map fun c => .str ⟨#[c]⟩)) (hl : l.length ≤ 1000) : ∃ z, e2 gJoin (eC (.str "")) (eL f) env = some (.str z) ∧ cs z = l := by
  have hs : asStrs (l.map fun c => PyData.str ⟨#[c]⟩) = some (l.map fun c => (⟨#[c]⟩ : Str)) := by
    clear h hl
    induction l with
    | nil => rfl
    | cons a r ih =>
      show (asStrs (r.map fun c => PyData.str ⟨#[c]⟩)).map _ = _
      rw [ih]
      rfl
  refine ⟨Txt.join "" (l.map fun c => (⟨#[c]⟩ : Str)), ?_, cs_join l⟩
  unfold e2 eC eL
  rw [h]
  show (asStrs (l.map fun c => PyData.str ⟨#[c]⟩)).bind _ = _
  rw [hs, Option.bind_some, if_pos]
  have h1 : ((l.map fun c => (⟨#[c]⟩ : Str)).map (·.length)).sum = l.length := by
    clear h hl hs
    induction l with
    | nil => rfl
    | cons a r ih =>
      rw [List.map_cons, List.map_cons, List.sum_cons, ih, List.length_cons]
      show 1 + _ = _
      omega
  rw [h1, show (Str.ofString "").length = 0 from by decide +kernel, Nat.mul_zero]
  omega
theorem fgo_nx {G : PyData → PL.Env → Option PL.Env} {F : PL.Env → Option Out} {x : PyData} {xs : List PyData} {env e1 e2 : PL.Env} (h1 : G x env = some e1) (h2 : F e1 = some (.nx e2)) : fGo G F (x :: xs) env = fGo G F xs e2 := by
  show (G x env).bind _ = _
  rw [h1, Option.bind_some, h2]
  rfl
theorem if_val {t : PL.Env → Option Bool} {F F2 : PL.Env → Option Out} {env : PL.Env} {b : Bool} (h : t env = some b) : sIf t F F2 env = if b then F env else F2 env := by
  show (t env).bind _ = _
  rw [h]
  rfl
theorem if_yes {t : PL.Env → Option Bool} {F F2 : PL.Env → Option Out} {env : PL.Env} (h : t env = some true) : sIf t F F2 env = F env := if_val h
theorem if_no {t : PL.Env → Option Bool} {F F2 : PL.Env → Option Out} {env : PL.Env} (h : t env = some false) : sIf t F F2 env = F2 env := if_val h
theorem seq_nx {F F2 : PL.Env → Option Out} {env e : PL.Env} (h : F env = some (.nx e)) : sSeq F F2 env = F2 e := by
  show (F env).bind _ = _
  rw [h]
  rfl
theorem seq_rt {F F2 : PL.Env → Option Out} {env : PL.Env} {d : PyData} (h : F env = some (.rt d)) : sSeq F F2 env = some (.rt d) := by
  show (F env).bind _ = _
  rw [h]
  rfl
theorem app_nx {i : Nat} {f : PL.Env → Option PyData} {env : PL.Env} {ds : List PyData} {d : PyData} (h1 : env[i]? = some (.own ds)) (h2 : f env = some d) (h3 : ds.length < 100000) : sApp i f env = some (.nx (env.set i (.own (ds ++ [d])))) := by
  unfold sApp
  rw [h1]
  show (f env).bind _ = _
  rw [h2, Option.bind_some, if_pos h3]
theorem asg_nx {f : PL.Env → Option PyData} {i : Nat} {env : PL.Env} {d : PyData} (h : f env = some d) : sAsg f (tgN i) env = some (.nx (env.set i (.sh d))) := by
  unfold sAsg
  rw [h]
  rfl
end PL
/-! Dicts of texts as data: read only. -/
namespace PL
open PySem L2 PySem.Spec PyProof.Rows
/-- the value at a text -/
def lookP : List (PyData × PyData) → Str → Option PyData
  | [], _ => none
  | q :: r, x => match q.1 with
    | .str k => if k = x then some q.2 else lookP r x
    | _ => lookP r x
def gDg : PyData → PyData → Option PyData
  | .dict kvs, .str x => lookP kvs x
  | _, _ => none
def isKS : PyData × PyData → Bool
  | (.str _, _) => true
  | _ => false
def gDin (neg : Bool) : PyData → PyData → Option PyData
  | .str x, .dict kvs => if kvs.all isKS then some (.bool (if neg then !(lookP kvs x).isSome else (lookP kvs x).isSome)) else none
  | _, _ => none
section
variable {K : PySem.W.Frag} {H : Hp}
theorem look_rp {x : Str} : ∀ {ks : List Str} {vs : List V} {ds : List PyData}, RpAll K H vs ds → ks.length = vs.length →
    (∀ d, lookP (kvP ks ds) x = some d → ∃ v, valV (kvV ks vs) (Sum.inr x) = some v ∧ Rp K H v d) ∧ (lookP (kvP ks ds) x = none → valV (kvV ks vs) (Sum.inr x) = none)
  | [], [], ds, r, _ => by
    cases r
    exact ⟨(fun d h => by cases h), fun _ => rfl⟩
  | k :: ks, v :: vs, ds, r, l => by
    cases r with
    | cons r t =>
      rename_i d ds
      have ih := look_rp (x := x) (ks := ks) t (by simpa using l)
      by_cases e : k = x
      · have h1 : valV (kvV (k :: ks) (v :: vs)) (Sum.inr x) = some v := valV_pos (by show Sum.inr k = Sum.inr x; rw [e])
        have h2 : lookP (kvP (k :: ks) (d :: ds)) x = some d := if_pos e
        refine ⟨fun d2 h => ?_, fun h => ?_⟩
        · rw [h2] at h
          cases h
          exact ⟨v, h1, r⟩
        · rw [h2] at h
          cases h
      · have h1 : valV (kvV (k :: ks) (v :: vs)) (Sum.inr x) = valV (kvV ks vs) (Sum.inr x) := valV_neg (fun z => e (Sum.inr.inj z))
        have h2 : lookP (kvP (k :: ks) (d :: ds)) x = lookP (kvP ks ds) x := if_neg e
        rw [h1, h2]
        exact ih
variable {O : Hid} {v : V}
theorem rp_dic {kvs : List (PyData × PyData)} (h : Rp K (vis O H) v (.dict kvs)) (hk : kvs.all isKS = true ∨ ∃ x d, lookP kvs x = some d) : ∃ a ks vs ds, v = .ref a ∧ H a = some (.dK (kvV ks vs)) ∧ ks.length = vs.length ∧ RpAll K (vis O H) vs ds ∧ kvs = kvP ks ds := by
  generalize hd : PyData.dict kvs = d at h
  cases h with
  | scr h =>
    injection hd with hd
    rw [hd] at hk
    rcases hk with hk | ⟨x, d, hk⟩ <;> cases hk
  | dic h l r =>
    injection hd with hd
    exact ⟨_, _, _, _, rfl, vis_le _ _ h, l, r, hd⟩
  | _ => cases hd
variable {te tk : TE} {f g : PL.Env → Option PyData}
theorem den_dget (h : DenP K te f) (hk : Den K tk g) : DenP K (tDGet te tk) (e2 gDg f g) := by
  intro base O0 O σ H env d S e Q q
  unfold e2 at e
  cases k1 : f env with
  | none => simp [k1] at e
  | some x =>
    cases k2 : g env with
    | none => simp [k1, k2] at e
    | some y =>
      simp only [k1, k2, Option.bind_some] at e
      unfold gDg at e
      split at e
      · rename_i kvs z
        refine h base O0 O σ H env _ S k1 _ fun v H1 x1 o1 => hk base O0 O σ H1 env _ (S.mono x1) k2 _ fun u H2 x2 o2 => ?_
        obtain ⟨a, ks, vs, ds, rfl, ha, hl, r, rfl⟩ := rp_dic (o1.mono (vis_mono x2)) (.inr ⟨_, _, e⟩)
        obtain ⟨w, hw, rw_⟩ := (look_rp r hl).1 _ e
        rw [o2.str]
        refine ⟨a, w, rfl, ?_, q w H2 (x1.trans x2) rw_⟩
        have := DGet.k (k := Sum.inr z) ha
        rw [hw] at this
        exact this
      · cases e
theorem den_din (hk : Den K tk g) (h : DenP K te f) : DenP K (tDIn tk te) (e2 (gDin false) g f) := by
  intro base O0 O σ H env d S e Q q
  unfold e2 at e
  cases k1 : g env with
  | none => simp [k1] at e
  | some x =>
    cases k2 : f env with
    | none => simp [k1, k2] at e
    | some y =>
      simp only [k1, k2, Option.bind_some] at e
      unfold gDin at e
      split at e
      · rename_i z kvs
        split at e
        case isFalse => cases e
        rename_i hs
        cases e
        refine hk base O0 O σ H env _ S k1 _ fun u H1 x1 o1 => h base O0 O σ H1 env _ (S.mono x1) k2 _ fun v H2 x2 o2 => ?_
        obtain ⟨a, ks, vs, ds, rfl, ha, hl, r, rfl⟩ := rp_dic o2 (.inl hs)
        rw [o1.str]
        have hw := look_rp (x := z) r hl
        refine ⟨a, _, rfl, DGet.k (k := Sum.inr z) ha, ?_⟩
        have : (valV (kvV ks vs) (Sum.inr z)).isSome = (lookP (kvP ks ds) z).isSome := by
          cases k : lookP (kvP ks ds) z with
          | none => rw [hw.2 k]; rfl
          | some d =>
            obtain ⟨w, e1, _⟩ := hw.1 d k
            rw [e1]
            rfl
        rw [this]
        exact q _ H2 (x1.trans x2) (.bl _)
      · cases e
theorem den_dnin (hk : Den K tk g) (h : DenP K te f) : DenP K (tDNotIn tk te) (e2 (gDin true) g f) := by
  intro base O0 O σ H env d S e Q q
  unfold e2 at e
  cases k1 : g env with
  | none => simp [k1] at e
  | some x =>
    cases k2 : f env with
    | none => simp [k1, k2] at e
    | some y =>
      simp only [k1, k2, Option.bind_some] at e
      unfold gDin at e
      split at e
      · rename_i z kvs
        split at e
        case isFalse => cases e
        rename_i hs
        cases e
        refine hk base O0 O σ H env _ S k1 _ fun u H1 x1 o1 => h base O0 O σ H1 env _ (S.mono x1) k2 _ fun v H2 x2 o2 => ?_
        obtain ⟨a, ks, vs, ds, rfl, ha, hl, r, rfl⟩ := rp_dic o2 (.inl hs)
        rw [o1.str]
        have hw := look_rp (x := z) r hl
        refine ⟨a, _, rfl, DGet.k (k := Sum.inr z) ha, ?_⟩
        have : (valV (kvV ks vs) (Sum.inr z)).isSome = (lookP (kvP ks ds) z).isSome := by
          cases k : lookP (kvP ks ds) z with
          | none => rw [hw.2 k]; rfl
          | some d =>
            obtain ⟨w, e1, _⟩ := hw.1 d k
            rw [e1]
            rfl
        rw [this]
        exact q _ H2 (x1.trans x2) (.bl _)
      · cases e
end
section
variable {K : PySem.W.Frag} {X : Cx} {a b : Expr} {ta tb : TE} {fa fb : PL.Env → Option PyData} {pos : Pos}
theorem dgx (hu : X.A.units + 1 < cLine) (ha : EP K X a ta fa) (hb : EO K X b tb fb) (hs : NoSl b := by exact fun _ _ => rfl) : EP K X (.Subscript a b pos) (tDGet ta tb) (e2 gDg fa fb) := ⟨pe_dget hu ha.pe hb.pe hs, den_dget ha.de hb.de⟩
theorem tDin_ (hu : X.A.units + 1 < cLine) (ha : EO K X a ta fa) (hb : EP K X b tb fb) (hm : behindInMarks .In b = false := by rfl) : ET K X (.Compare a [.In] [b] pos) (tTest (tDIn ta tb)) (tE (e2 (gDin false) fa fb)) := ⟨pt_cmp (h1 := hm) (pc_din hu ha.pe hb.pe), den_test (den_din ha.de hb.de).o⟩
theorem tDnin_ (hu : X.A.units + 1 < cLine) (ha : EO K X a ta fa) (hb : EP K X b tb fb) (hm : behindInMarks .NotIn b = false := by rfl) : ET K X (.Compare a [.NotIn] [b] pos) (tTest (tDNotIn ta tb)) (tE (e2 (gDin true) fa fb)) := ⟨pt_cmp (h1 := hm) (pc_dnotin hu ha.pe hb.pe), den_test (den_dnin ha.de hb.de).o⟩
end
/-! ### displays -/
theorem merge_new : ∀ (more acc : List (Key × V)), ((acc ++ more).map (·.1)).Nodup → more.foldl (fun acc kv => putK acc kv.1 kv.2) acc = acc ++ more
  | [], acc, _ => by rw [List.append_nil]; rfl
  | q :: more, acc, h => by
    have h1 : ¬ (acc.any fun kv => decide (kv.1 = q.1)) = true := fun z => by
      obtain ⟨r, m, e⟩ := List.any_eq_true.mp z
      rw [List.map_append, List.nodup_append] at h
      exact h.2.2 _ (List.mem_map_of_mem m) _ (List.mem_map_of_mem (List.mem_cons_self ..)) (of_decide_eq_true e)
    rw [List.foldl_cons]
    have h2 : putK acc q.1 q.2 = acc ++ [q] := by
      unfold putK
      rw [if_neg h1]
    rw [h2, merge_new more (acc ++ [q]) (by rw [List.append_assoc]; exact h), List.append_assoc]
    rfl
theorem kvV_keys : ∀ {ks : List Str} {vs : List V}, ks.length = vs.length → (kvV ks vs).map (·.1) = ks.map fun k => (Sum.inr k : Key)
  | [], [], _ => rfl
  | k :: ks, v :: vs, l => by
    have := kvV_keys (ks := ks) (vs := vs) (by simpa using l)
    show (Sum.inr k : Key) :: (kvV ks vs).map (·.1) = _
    rw [this]
    rfl
theorem keys_nd {ks : List Str} (h : ks.Nodup) : (ks.map fun k => (Sum.inr k : Key)).Nodup := by
  induction ks with
  | nil => exact List.nodup_nil
  | cons k ks ih =>
    rw [List.nodup_cons] at h
    rw [List.map_cons, List.nodup_cons]
    refine ⟨fun m => ?_, ih h.2⟩
    obtain ⟨z, mz, e⟩ := List.mem_map.mp m
    rw [← Sum.inr.inj e] at h
    exact h.1 mz
def DenPs (K : PySem.W.Frag) (l : List (TE × TE)) (ks : List Str) (fr : PL.Env → Option (List PyData)) : Prop := ∀ base O0 O σ H env ds, Sat K base O0 O σ H env → fr env = some ds → ∀ Q : List (V × V) → Hp → Prop, (∀ vs H', Ex H H' → ks.length = vs.length → RpAll K (vis O H') vs ds → Q ((kvV ks vs).map fun kv => (kV kv.1, kv.2)) H') → tPairs l σ H Q
def eDict (ks : List Str) (fr : PL.Env → Option (List PyData)) : PL.Env → Option PyData := fun env => (fr env).map fun ds => .dict (kvP ks ds)
section
variable {K : PySem.W.Frag} {l : List (TE × TE)} {ks : List Str} {fr : PL.Env → Option (List PyData)} {tv : TE} {f : PL.Env → Option PyData}
theorem den_pnil : DenPs K [] [] aNil := by
  intro base O0 O σ H env ds S e Q q
  cases e
  exact q [] H (Ex.refl H) rfl .nil
theorem den_pcons {k : Str} (h : DenP K tv f) (hr : DenPs K l ks fr) : DenPs K ((tC (.str k), tv) :: l) (k :: ks) (aCons f fr) := by
  intro base O0 O σ H env ds S e Q q
  unfold aCons at e
  cases k1 : f env with
  | none => simp [k1] at e
  | some x =>
    cases k2 : fr env with
    | none => simp [k1, k2] at e
    | some xs =>
      simp only [k1, k2, Option.bind_some, Option.map_some] at e
      cases e
      show tv σ H _
      refine h base O0 O σ H env _ S k1 _ fun v H1 x1 r1 => ?_
      refine hr base O0 O σ H1 env _ (S.mono x1) k2 _ fun vs H2 x2 hl r2 => ?_
      exact q (v :: vs) H2 (x1.trans x2) (by rw [List.length_cons, List.length_cons, hl]) (.cons (r1.mono (vis_mono x2)) r2)
theorem den_dict (hn : ks.Nodup) (h15 : ks.length ≤ 15) (h : DenPs K l ks fr) : DenP K (tDisp l) (eDict ks fr) := by
  intro base O0 O σ H env d S e Q q
  unfold eDict at e
  cases k1 : fr env with
  | none => simp [k1] at e
  | some ds =>
    simp only [k1, Option.map_some] at e
    cases e
    intro p hp
    have S1 := S.hide (D := p) (H' := upd H p (.dK [])) hp (Ex.new hp) (by rw [upd_same]; exact fun z => nomatch z)
    refine h base O0 (hid O p) σ _ env ds S1 k1 _ fun vs H2 x2 hl r => ?_
    have h2 : H2 p = some (.dK []) := x2 p _ upd_same
    refine ⟨h2, kvV ks vs, rfl, ?_, ?_⟩
    · unfold kvV
      rw [List.length_map, List.length_zip]
      omega
    · have hm : mergeK [] (kvV ks vs) = kvV ks vs := by
        unfold mergeK
        rw [merge_new _ [] (by rw [List.nil_append, kvV_keys hl]; exact keys_nd hn)]
        rfl
      rw [hm]
      have op : O p = false := by
        cases z : O p with
        | false => rfl
        | true => exact absurd hp (S.all p z)
      have e1 : Ex H (upd H2 p (.dK (kvV ks vs))) := fun a o ha => by
        have ne : a ≠ p := ne_of_none ha hp
        rw [upd_ne ne]
        exact x2 a o (by rw [upd_ne ne]; exact ha)
      refine q _ _ e1 (.dic (vis_at op upd_same) hl (r.mono fun a o ha => ?_))
      have hid1 : hid O p a = false := by
        cases z : hid O p a with
        | false => rfl
        | true =>
          unfold vis at ha
          rw [if_pos z] at ha
          cases ha
      have ha2 := vis_le _ _ ha
      unfold hid at hid1
      rw [Bool.or_eq_false_iff] at hid1
      exact vis_at hid1.1 (by rw [upd_ne (of_decide_eq_false hid1.2)]; exact ha2)
end
section
variable {K : PySem.W.Frag} {X : Cx} {l : List (TE × TE)} {ks : List Str} {fr : PL.Env → Option (List PyData)} {tv : TE} {f : PL.Env → Option PyData} {keys : List (Option Expr)} {vals : List Expr} {e : Expr} {pos p2 : Pos}
structure EPs (K : PySem.W.Frag) (X : Cx) (pos : Pos) (keys : List (Option Expr)) (vals : List Expr) (l : List (TE × TE)) (ks : List Str) (fr : PL.Env → Option (List PyData)) : Prop where
  pe : PPs X pos keys vals l
  de : DenPs K l ks fr
theorem kN : EPs K X pos [] [] [] [] aNil := ⟨pps_nil, den_pnil⟩
theorem kC {k : Str} {j} (h : EP K X e tv f) (hr : EPs K X pos keys vals l ks fr) : EPs K X pos (some (.Constant (.str k) j p2) :: keys) (e :: vals) ((tC (.str k), tv) :: l) (k :: ks) (aCons f fr) := ⟨pps_cons pe_str h.pe hr.pe, den_pcons h.de hr.de⟩
theorem dDict (h : EPs K X pos keys vals l ks fr) (hn : ks.Nodup := by decide +kernel) (h15 : ks.length ≤ 15 := by decide) (hall : keys.all (·.isSome) = true := by rfl) (hl : keys.length = vals.length := by rfl) (h0 : keys ≠ [] := by exact fun z => nomatch z) (hk : keys.length ≤ 15 := by decide) : EP K X (.Dict keys vals pos) (tDisp l) (eDict ks fr) :=
  ⟨pe_disp h.pe hall hl h0 hk, den_dict hn h15 h.de⟩
end
end PL
/-! What the laws share that speaks of no def of theirs. -/
namespace PR
open PySem L2 PySem.Spec PyProof.Rows PL
theorem te2r_ev {a b : PL.Env → Option PyData} {env : PL.Env} {g : PyData → PyData → Option PyData} {x y : PyData} {t : Bool} (ha : a env = some x) (hb : b env = some y) (h : g x y = some (.bool t)) : tE (e2 g a b) env = some t := by
  unfold tE e2
  rw [ha, hb, Option.bind_some, Option.bind_some, h]
  rfl
def callT (t : Int) (n : Nat) : List Nat := (List.range n).map fun (j : Nat) => 97 + ((t + 5 * (j : Int) * (1 + t % 3)) % 26).toNat
def callL (c : Int) (k : Nat) (sg : List Nat) : List Nat :=
  let t := c + 31 * (k : Int) * (c % 2)
  let n := (t / 26 % (9 - (sg.length : Int))).toNat
  let p := if c % 2 = 0 then (c / 4 % ((n : Int) + 1)).toNat else n
  (callT t n).take p ++ sg ++ (callT t n).drop p
theorem letter_at (i : Int) (h0 : 0 ≤ i) (h1 : i < 26) : gIx (.str "abcdefghijklmnopqrstuvwxyz") (.int i) = some (.str ⟨#[97 + i.toNat]⟩) := by
  obtain ⟨n, rfl⟩ := Int.eq_ofNat_of_zero_le h0
  have hn : n < 26 := by omega
  have : ∀ n : Nat, n < 26 → atI (Str.ofString "abcdefghijklmnopqrstuvwxyz").cps.toList ((n : Nat) : Int) = some (97 + ((n : Nat) : Int).toNat) := by decide +kernel
  show (if (Str.ofString "abcdefghijklmnopqrstuvwxyz").length ≤ 100000 then (atI (Str.ofString "abcdefghijklmnopqrstuvwxyz").cps.toList ((n : Nat) : Int)).map fun c => PyData.str ⟨#[c]⟩ else none) = _
  rw [if_pos (by decide +kernel), this n hn]
  rfl
theorem eqs_ev {a b : PL.Env → Option PyData} {env : PL.Env} {n : Str} {w : Option Str} (ha : a env = some (.str n)) (hb : b env = some (optD w)) (h1 : PyData.strOk n = true) (h2 : ∀ x, w = some x → PyData.strOk x = true) : tE (e2 gEq a b) env = some (decide (w = some n)) := by
  unfold tE e2
  rw [ha, hb]
  cases w with
  | none =>
    show (if SeqAt.shaped (.str n) && SeqAt.shaped .none then some (PyData.bool (PyData.eqv (.str n) .none)) else none).bind asB = _
    rw [shaped_str h1, shaped_none]
    rfl
  | some x =>
    show (if SeqAt.shaped (.str n) && SeqAt.shaped (.str x) then some (PyData.bool (PyData.eqv (.str n) (.str x))) else none).bind asB = _
    rw [shaped_str h1, shaped_str (h2 x rfl), eqv_str]
    show some (decide (n = x)) = some (decide (some x = some n))
    congr 1
    exact decide_eq_decide.mpr ⟨fun h => by rw [h], fun h => (Option.some.inj h).symm⟩
theorem all_rev {ps : List (Str × Option Str)} (h : ps.all okP = true) : ps.reverse.all okP = true := by
  rw [List.all_reverse]
  exact h
def manyM (ns : List Int) : Nat := (if ns.getD 0 0 / 4 % 8 = 1 then 12 - ns.getD 0 0 / 32 % 8 else 1 + ns.getD 0 0 % 4).toNat
def nameM (ns : List Int) (k : Nat) : Str := ⟨(callL (ns.getD 1 0 / 3) k [97 + k]).toArray⟩
def pickM (ns : List Int) (k : Nat) : Int := if ns.getD 1 0 % 4 = 3 ∧ 0 < k then (k : Int) - 1 else (ns.getD 1 0 + 7 * (k : Int)) * 48271 % 10007 % ((k : Int) + 1)
def plotM (ns : List Int) (k : Nat) : Str × Option Str := (nameM ns k, if pickM ns k < k then some (nameM ns (pickM ns k).toNat) else none)
def plotsM (ns : List Int) : List (Str × Option Str) := (List.range (manyM ns)).map (plotM ns)
theorem manyM_le (ns : List Int) : 1 ≤ manyM ns ∧ manyM ns ≤ 12 := by
  unfold manyM
  split <;> omega
theorem pickM_nn (ns : List Int) (k : Nat) : 0 ≤ pickM ns k := by
  unfold pickM
  split
  · omega
  · exact Int.emod_nonneg _ (by omega)
theorem abc_at (k : Nat) (h : k < 12) : atI (Str.ofString "abcdefghijkl").cps.toList ((k : Nat) : Int) = some (97 + k) := by
  have : ∀ n : Nat, n < 12 → atI (Str.ofString "abcdefghijkl").cps.toList ((n : Nat) : Int) = some (97 + n) := by decide +kernel
  exact this k h
theorem callT_low {t : Int} {n : Nat} {c : Nat} (h : c ∈ callT t n) : 97 ≤ c ∧ c ≤ 122 := by
  unfold callT at h
  obtain ⟨j, _, rfl⟩ := List.mem_map.mp h
  have h1 := Int.emod_nonneg (t + 5 * (j : Int) * (1 + t % 3)) (show (26 : Int) ≠ 0 by omega)
  have h2 := Int.emod_lt_of_pos (t + 5 * (j : Int) * (1 + t % 3)) (show (0 : Int) < 26 by omega)
  omega
theorem callL_low {c : Int} {k : Nat} {sg : List Nat} (hs : ∀ x ∈ sg, 97 ≤ x ∧ x ≤ 122) : ∀ x ∈ callL c k sg, 97 ≤ x ∧ x ≤ 122 := by
  intro x h
  unfold callL at h
  simp only [List.mem_append] at h
  rcases h with (h | h) | h
  · exact callT_low (List.mem_of_mem_take h)
  · exact hs x h
  · exact callT_low (List.mem_of_mem_drop h)
theorem strOk_of {z : Str} (h : ∀ c ∈ cs z, 97 ≤ c ∧ c ≤ 122) : PyData.strOk z = true := by
  unfold PyData.strOk
  rw [← Array.all_toList, List.all_eq_true]
  intro c m
  have := h c m
  simp
  omega
theorem nameM_ok (ns : List Int) (k : Nat) (hk : k < 26) : PyData.strOk (nameM ns k) = true := strOk_of (callL_low (c := ns.getD 1 0 / 3) (k := k) (sg := [97 + k]) fun x h => by
  rw [List.mem_singleton] at h
  omega)
theorem callL_inj {c : Int} {i j a b : Nat} (h : callL c i [a] = callL c j [b]) : a = b := by
  unfold callL at h
  simp only [List.length_singleton] at h
  by_cases he : c % 2 = 0
  · simp only [he, Int.mul_zero, Int.add_zero, if_pos] at h
    have h1 := List.append_cancel_right h
    exact (List.cons.inj (List.append_cancel_left h1)).1
  · simp only [if_neg he] at h
    have ht : ∀ t n, (callT t n).take n = callT t n ∧ (callT t n).drop n = [] := fun t n => by
      have : (callT t n).length = n := by unfold callT; rw [List.length_map, List.length_range]
      exact ⟨List.take_of_length_le (by omega), List.drop_eq_nil_of_le (by omega)⟩
    rw [(ht _ _).1, (ht _ _).2, (ht _ _).1, (ht _ _).2, List.append_nil, List.append_nil] at h
    have := congrArg List.getLast? h
    rw [List.getLast?_concat, List.getLast?_concat] at this
    exact Option.some.inj this
theorem nameM_inj {ns : List Int} {i j : Nat} (h : nameM ns i = nameM ns j) : i = j := by
  have h1 := congrArg cs h
  have h2 : callL (ns.getD 1 0 / 3) i [97 + i] = callL (ns.getD 1 0 / 3) j [97 + j] := h1
  have := callL_inj h2
  omega
theorem plots_names (ns : List Int) : (plotsM ns).map (·.1) = (List.range (manyM ns)).map (nameM ns) := by
  unfold plotsM
  rw [List.map_map]
  rfl
theorem plots_nodup (ns : List Int) : ((plotsM ns).map (·.1)).Nodup := by
  rw [plots_names]
  have : ∀ l : List Nat, l.Nodup → (l.map (nameM ns)).Nodup := fun l hl => by
    induction l with
    | nil => exact List.nodup_nil
    | cons a r ih =>
      rw [List.nodup_cons] at hl
      rw [List.map_cons, List.nodup_cons]
      exact ⟨fun m => by
        obtain ⟨b, mb, e⟩ := List.mem_map.mp m
        rw [nameM_inj e] at mb
        exact hl.1 mb, ih hl.2⟩
  exact this _ List.nodup_range
theorem plots_ok (ns : List Int) : (plotsM ns).all okP = true := by
  rw [List.all_eq_true]
  intro q m
  unfold plotsM at m
  obtain ⟨i, mi, rfl⟩ := List.mem_map.mp m
  rw [List.mem_range] at mi
  have hm := manyM_le ns
  unfold okP plotM
  rw [Bool.and_eq_true]
  refine ⟨nameM_ok ns i (by omega), ?_⟩
  split
  · rfl
  · rename_i o e
    simp only at e
    split at e
    · cases e
      rename_i hp
      have := pickM_nn ns i
      exact nameM_ok ns _ (by omega)
    · cases e
theorem plots_len (ns : List Int) : (plotsM ns).length = manyM ns := by
  unfold plotsM
  rw [List.length_map, List.length_range]
def chN (ns : List Int) (n i : Nat) : List Str := outGo ((List.range n).map (plotM ns)).reverse (some (nameM ns i))
theorem outGo_none : ∀ l : List (Str × Option Str), outGo l none = []
  | [] => rfl
  | q :: r => by
    show (if (none : Option Str) = some q.1 then _ else outGo r none) = []
    rw [if_neg (by intro z; cases z), outGo_none r]
theorem chN_succ (ns : List Int) (n i : Nat) : chN ns (n + 1) i = if i = n then nameM ns n :: (if pickM ns n < n then chN ns n (pickM ns n).toNat else []) else chN ns n i := by
  unfold chN
  rw [List.range_succ, List.map_append, List.reverse_append]
  show (if some (nameM ns i) = some (plotM ns n).1 then (plotM ns n).1 :: outGo ((List.range n).map (plotM ns)).reverse (plotM ns n).2 else outGo ((List.range n).map (plotM ns)).reverse (some (nameM ns i))) = _
  by_cases h : i = n
  · rw [if_pos (by rw [h]; rfl), if_pos h]
    show nameM ns n :: outGo _ (if pickM ns n < n then some (nameM ns (pickM ns n).toNat) else none) = _
    by_cases hp : pickM ns n < n
    · rw [if_pos hp, if_pos hp]
    · rw [if_neg hp, if_neg hp, outGo_none]
  · rw [if_neg (show ¬ some (nameM ns i) = some (plotM ns n).1 from fun e => h (nameM_inj (Option.some.inj e))), if_neg h]
theorem chN_stab (ns : List Int) (n i : Nat) (hi : i < n) : chN ns n i = chN ns (i + 1) i := by
  induction n with
  | zero => omega
  | succ n ih =>
    by_cases h : i = n
    · rw [h]
    · rw [chN_succ, if_neg h, ih (by omega)]
theorem out_chN (ns : List Int) (i : Nat) : outM (plotsM ns) (nameM ns i) = chN ns (manyM ns) i := rfl
theorem chain_rec (ns : List Int) (i : Nat) (hi : i < manyM ns) : outM (plotsM ns) (nameM ns i) = nameM ns i :: (if pickM ns i < i then outM (plotsM ns) (nameM ns (pickM ns i).toNat) else []) := by
  rw [out_chN, chN_stab ns _ i hi, chN_succ, if_pos rfl]
  congr 1
  by_cases hp : pickM ns i < i
  · rw [if_pos hp, if_pos hp, out_chN]
    have := pickM_nn ns i
    rw [chN_stab ns i _ (by omega), chN_stab ns (manyM ns) _ (by omega)]
  · rw [if_neg hp, if_neg hp]
theorem chain_root (ns : List Int) : ∀ i : Nat, i < manyM ns → ∃ j, j < manyM ns ∧ nameM ns j ∈ outM (plotsM ns) (nameM ns i) ∧ ¬ pickM ns j < j := by
  intro i
  induction i using Nat.strongRecOn with
  | ind i ih =>
    intro hi
    rw [chain_rec ns i hi]
    by_cases hp : pickM ns i < i
    · have hn := pickM_nn ns i
      obtain ⟨j, h1, h2, h3⟩ := ih (pickM ns i).toNat (by omega) (by omega)
      exact ⟨j, h1, by rw [if_pos hp]; exact List.mem_cons_of_mem _ h2, h3⟩
    · exact ⟨i, hi, List.mem_cons_self .., hp⟩
def rowD : PL.Row → List PyData
  | .open_ p => [.str "open", .str p]
  | .lay n p z => [.str "lay", .str n, .str p, .int z]
  | .copy n o p => [.str "copy", .str n, .str o, .str p]
  | .same n o => [.str "same", .str n, .str o]
  | .add n o => [.str "add", .str n, .str o]
  | .tell n => [.str "tell", .str n]
  | .give p => [.str "give", .str p]
  | .fork k => [.str "fork", .int k]
  | .go k => [.str "go", .int k]
  | .end_ => [.str "end"]
theorem encR_rowD (r : PL.Row) : encR r = .tuple (rowD r) := by cases r <;> rfl
def wordR : PL.Row → Str
  | .open_ _ => "open" | .lay .. => "lay" | .copy .. => "copy" | .same .. => "same" | .add .. => "add" | .tell _ => "tell" | .give _ => "give" | .fork _ => "fork" | .go _ => "go" | .end_ => "end"
theorem wordR_ok : ∀ r : PL.Row, PyData.strOk (wordR r) = true
  | .open_ _ => (by decide +kernel : PyData.strOk "open" = true)
  | .lay .. => (by decide +kernel : PyData.strOk "lay" = true)
  | .copy .. => (by decide +kernel : PyData.strOk "copy" = true)
  | .same .. => (by decide +kernel : PyData.strOk "same" = true)
  | .add .. => (by decide +kernel : PyData.strOk "add" = true)
  | .tell _ => (by decide +kernel : PyData.strOk "tell" = true)
  | .give _ => (by decide +kernel : PyData.strOk "give" = true)
  | .fork _ => (by decide +kernel : PyData.strOk "fork" = true)
  | .go _ => (by decide +kernel : PyData.strOk "go" = true)
  | .end_ => (by decide +kernel : PyData.strOk "end" = true)
def textsR : PL.Row → List Str
  | .open_ p => [p] | .lay n p _ => [n, p] | .copy n o p => [n, o, p] | .same n o => [n, o] | .add n o => [n, o] | .tell n => [n] | .give p => [p] | _ => []
theorem eqz_ev {a b : PL.Env → Option PyData} {env : PL.Env} {w z : Str} (ha : a env = some (.str w)) (hb : b env = some (.str z)) (hw : PyData.strOk w = true) (hz : PyData.strOk z = true) : tE (e2 gEq a b) env = some (decide (w = z)) := by
  refine te2r_ev ha hb ?_
  show (if SeqAt.shaped (.str w) && SeqAt.shaped (.str z) then some (PyData.bool (PyData.eqv (.str w) (.str z))) else none) = _
  rw [shaped_str hw, shaped_str hz, eqv_str]
  rfl
theorem nez_ev {a b : PL.Env → Option PyData} {env : PL.Env} {w z : Str} (ha : a env = some (.str w)) (hb : b env = some (.str z)) (hw : PyData.strOk w = true) (hz : PyData.strOk z = true) : tE (e2 gNe a b) env = some (!decide (w = z)) := by
  refine te2r_ev ha hb ?_
  show (if SeqAt.shaped (.str w) && SeqAt.shaped (.str z) then some (PyData.bool (!PyData.eqv (.str w) (.str z))) else none) = _
  rw [shaped_str hw, shaped_str hz, eqv_str]
  rfl
theorem in_strs {neg : Bool} {x : Str} {l : List Str} (hx : PyData.strOk x = true) (hl : ∀ y ∈ l, PyData.strOk y = true) : gInL neg (.str x) (.list (l.map PyData.str)) = some (.bool (if neg then !decide (x ∈ l) else decide (x ∈ l))) := by
  unfold gInL
  have h1 : SeqAt.shaped (.list (l.map PyData.str)) = true := (fit_list (n := 0) fun d m => by
    obtain ⟨y, my, rfl⟩ := List.mem_map.mp m
    exact fit_str 0 (hl y my)).sh (by omega)
  show (if SeqAt.shaped (.str x) && SeqAt.shaped (.list (l.map PyData.str)) then some (PyData.bool (if neg then !(l.map PyData.str).any fun z => PyData.eqv z (.str x) else (l.map PyData.str).any fun z => PyData.eqv z (.str x))) else none) = _
  rw [shaped_str hx, h1]
  have h2 : ((l.map PyData.str).any fun z => PyData.eqv z (.str x)) = decide (x ∈ l) := by
    rw [List.any_map, Bool.eq_iff_iff, List.any_eq_true, decide_eq_true_eq]
    constructor
    · rintro ⟨y, my, e⟩
      have e' : PyData.eqv (.str y) (.str x) = true := e
      rw [eqv_str] at e'
      rw [← of_decide_eq_true e']
      exact my
    · intro m
      refine ⟨x, m, ?_⟩
      show PyData.eqv (.str x) (.str x) = true
      rw [eqv_str]
      simp
  rw [h2]
  rfl
theorem ins_ev {neg : Bool} {a b : PL.Env → Option PyData} {env : PL.Env} {x : Str} {l : List Str} (ha : a env = some (.str x)) (hb : b env = some (.list (l.map PyData.str))) (hx : PyData.strOk x = true) (hl : ∀ y ∈ l, PyData.strOk y = true) : tE (e2 (gInL neg) a b) env = some (if neg then !decide (x ∈ l) else decide (x ∈ l)) := by
  unfold tE e2
  rw [ha, hb, Option.bind_some, Option.bind_some, in_strs hx hl]
  rfl
theorem ret_seq {t : PL.Env → Option Bool} {d : PyData} {R : PL.Env → Option Out} {env : PL.Env} {b : Bool} (h : t env = some b) : sSeq (sIf t (sRet (eC d)) sNext) R env = if b then some (.rt d) else R env := by
  rw [if_seq h]
  cases b <;> rfl
theorem callN2_ev {f : List PyData → Option (List PyData)} {a b : PL.Env → Option PyData} {env : PL.Env} {x y : PyData} {ds : List PyData} (ha : a env = some x) (hb : b env = some y) (h : f [x, y] = some ds) : eL (fun env => ((aCons a (aCons b aNil)) env).bind fun ds => if ds.length = 2 then f ds else none) env = some (.list ds) := by
  show Option.map PyData.list (((a env).bind fun d => ((b env).bind fun d2 => some [d2]).bind fun ds => some (d :: ds)).bind fun ds => if ds.length = 2 then f ds else none) = _
  rw [ha, hb]
  show (f [x, y]).map PyData.list = _
  rw [h]
  rfl
theorem eif_ev {t : PL.Env → Option Bool} {a b : PL.Env → Option PyData} {env : PL.Env} {d : PyData} {k : Bool} (ht : t env = some k) (ha : k = true → a env = some d) (hb : k = false → b env = some d) : eIf t a b env = some d := by
  unfold eIf
  rw [ht, Option.bind_some]
  cases k with
  | true => exact ha rfl
  | false => exact hb rfl
theorem eL_ev {f : PL.Env → Option (List PyData)} {env : PL.Env} {xs : List PyData} (h : f env = some xs) : eL f env = some (.list xs) := by
  unfold eL
  rw [h]
  rfl
theorem lrev_ev {a : PL.Env → Option PyData} {env : PL.Env} {xs : List PyData} (h : a env = some (.list xs)) : eL (nRev a) env = some (.list xs.reverse) := by
  unfold eL nRev
  rw [h]
  rfl
theorem inV_strs (x : Str) (l : List Str) : inV (.str x) (l.map V.str) = decide (x ∈ l) := by
  unfold inV
  rw [List.any_map, Bool.eq_iff_iff, List.any_eq_true]
  simp only [decide_eq_true_eq, Function.comp]
  constructor
  · rintro ⟨y, m, e⟩
    have : y = x := by
      have e' : (y == x) = true := e
      exact beq_iff_eq.mp e'
    rw [← this]
    exact m
  · intro m
    exact ⟨x, m, beq_iff_eq.mpr rfl⟩
theorem lenl_ev {f : PL.Env → Option PyData} {env : PL.Env} {ds : List PyData} (h : f env = some (.list ds)) : eA gLen (aCons f aNil) env = some (.int (ds.length : Int)) := by
  unfold eA aCons aNil
  rw [h]
  rfl
theorem tup_ev {f : PL.Env → Option (List PyData)} {env : PL.Env} {ds : List PyData} (h : f env = some ds) (hl : ds.length ≤ 100000) : eTup f env = some (.tuple ds) := by
  unfold eTup short
  rw [h, Option.bind_some, if_pos hl]
  rfl
theorem lst_ev {f : PL.Env → Option (List PyData)} {env : PL.Env} {ds : List PyData} (h : f env = some ds) (hl : ds.length ≤ 100000) : eL (nLst f) env = some (.list ds) := by
  unfold eL nLst short
  rw [h, Option.bind_some, if_pos hl]
  rfl
theorem acons_ev {f : PL.Env → Option PyData} {g : PL.Env → Option (List PyData)} {env : PL.Env} {d : PyData} {ds : List PyData} (h : f env = some d) (h2 : g env = some ds) : aCons f g env = some (d :: ds) := by
  unfold aCons
  rw [h, Option.bind_some, h2]
  rfl
theorem anil_ev {env : PL.Env} : aNil env = some [] := rfl
def moreM (c : Int) : Int := (c / 10 * 48271 + 11) % 1000003
def pickS (l : List Str) (i : Int) : Str := l.getD (i % l.length).toNat ""
def rowM (ps : List (Str × Option Str)) (nms : List Str) (c sz : Int) : PL.Row :=
  match (c % 10).toNat with
  | 0 => .open_ (pickS (ps.map (·.1)) (moreM c / 61))
  | 1 => .lay (pickS nms (moreM c)) (pickS (ps.map (·.1)) (moreM c / 61)) (if moreM c % 4 = 1 then c / 10 % 2000000000000000001 - 1000000000000000000 else c / 10 % 19 - 9)
  | 2 => .copy (pickS nms (moreM c)) (pickS nms (moreM c / 7)) (pickS (ps.map (·.1)) (moreM c / 61))
  | 3 => .same (pickS nms (moreM c)) (pickS nms (moreM c / 7))
  | 4 => .add (pickS nms (moreM c)) (pickS nms (moreM c / 7))
  | 5 => .tell (pickS nms (moreM c))
  | 6 => .give (pickS (ps.map (·.1)) (moreM c / 61))
  | 7 => .fork (moreM c / 1013 % (sz + 1))
  | 8 => .go (moreM c / 1013 % (sz + 1))
  | _ => .end_
theorem pickS_mem {l : List Str} {i : Int} (h : 0 < l.length) : pickS l i ∈ l := by
  unfold pickS
  have h1 := Int.emod_nonneg i (show (l.length : Int) ≠ 0 by omega)
  have h2 := Int.emod_lt_of_pos i (show (0 : Int) < l.length by omega)
  rw [List.getD_eq_getElem?_getD, List.getElem?_eq_getElem (by omega)]
  exact List.getElem_mem _
theorem pickS_at {α : Type} {l : List α} {i : Int} {g : α → Str} (h : 0 < l.length) : ∃ q ∈ l, atI l (i % l.length) = some q ∧ g q = pickS (l.map g) i := by
  have h1 := Int.emod_nonneg i (show (l.length : Int) ≠ 0 by omega)
  have h2 := Int.emod_lt_of_pos i (show (0 : Int) < l.length by omega)
  obtain ⟨n, hn⟩ := Int.eq_ofNat_of_zero_le h1
  have hlt : n < l.length := by omega
  refine ⟨l[n], List.getElem_mem _, ?_, ?_⟩
  · rw [hn]
    exact atI_nat' (List.getElem?_eq_getElem hlt)
  · unfold pickS
    rw [List.length_map, hn, Int.toNat_natCast, List.getD_eq_getElem?_getD, List.getElem?_map, List.getElem?_eq_getElem hlt]
    rfl
theorem pick_ev {a b : PL.Env → Option PyData} {env : PL.Env} {l : List Str} {i : Int} (ha : a env = some (.list (l.map PyData.str))) (hb : b env = some (.int i)) (h : 0 < l.length) : e2 gIx a (e2 (gIC cMod (· % ·)) b (eA gLen (aCons a aNil))) env = some (.str (pickS l i)) := by
  refine ix_ev ha (mod_ev hb (lenl_ev ha) (by rw [List.length_map]; omega)) ?_
  obtain ⟨q, m, e, g⟩ := pickS_at (i := i) (g := fun x => x) h
  rw [List.length_map]
  have h1 := Int.emod_nonneg i (show (l.length : Int) ≠ 0 by omega)
  obtain ⟨n, hn⟩ := Int.eq_ofNat_of_zero_le h1
  have h2 := Int.emod_lt_of_pos i (show (0 : Int) < l.length by omega)
  rw [hn]
  refine atI_nat' ?_
  rw [List.getElem?_map]
  unfold pickS
  rw [hn, Int.toNat_natCast, List.getD_eq_getElem?_getD, List.getElem?_eq_getElem (by omega)]
  rfl
theorem pickp_ev {a b : PL.Env → Option PyData} {env : PL.Env} {l : List (Str × Option Str)} {i : Int} (ha : a env = some (encPs l)) (hb : b env = some (.int i)) (h : 0 < l.length) : e2 gIx (e2 gIx a (e2 (gIC cMod (· % ·)) b (eA gLen (aCons a aNil)))) (eC (.int 0)) env = some (.str (pickS (l.map (·.1)) i)) := by
  have h1 := Int.emod_nonneg i (show (l.length : Int) ≠ 0 by omega)
  obtain ⟨n, hn⟩ := Int.eq_ofNat_of_zero_le h1
  have h2 := Int.emod_lt_of_pos i (show (0 : Int) < l.length by omega)
  have hlt : n < l.length := by omega
  have hp : pickS (l.map (·.1)) i = l[n].1 := by
    unfold pickS
    rw [List.length_map, hn, Int.toNat_natCast, List.getD_eq_getElem?_getD, List.getElem?_map, List.getElem?_eq_getElem hlt]
    rfl
  refine ixt_ev (ds := [.str l[n].1, optD l[n].2]) (i := 0) (ix_ev (ds := l.map encP) ha (mod_ev hb (lenl_ev (ds := l.map encP) ha) (by rw [List.length_map]; omega)) ?_) rfl ?_
  · rw [List.length_map, hn]
    refine atI_nat' ?_
    rw [List.getElem?_map, List.getElem?_eq_getElem hlt]
    rfl
  · rw [hp]
    rfl
def nmanyM (c : Int) : Nat := (if c / 5 % 16 = 3 then 60 else 1 + c % 5).toNat
def nmM (c : Int) (k : Nat) : Str := ⟨(callL (c / 80) k [97 + k / 26, 122 - k % 26]).toArray⟩
def namesM (ns : List Int) : List Str := if ns.getD 2 0 / 5 % 4 = 1 then ((plotsM ns).map (·.1)).take (nmanyM (ns.getD 2 0)) else (List.range (nmanyM (ns.getD 2 0))).map (nmM (ns.getD 2 0))
theorem nmany_le (c : Int) : 1 ≤ nmanyM c ∧ nmanyM c ≤ 60 := by
  unfold nmanyM
  split <;> omega
theorem names_len (ns : List Int) : 1 ≤ (namesM ns).length ∧ (namesM ns).length ≤ 60 := by
  have h := nmany_le (ns.getD 2 0)
  have h2 := manyM_le ns
  unfold namesM
  split
  · rw [List.length_take, List.length_map, plots_len]
    omega
  · rw [List.length_map, List.length_range]
    omega
theorem names_ok (ns : List Int) : ∀ x ∈ namesM ns, PyData.strOk x = true := by
  intro x m
  have h := nmany_le (ns.getD 2 0)
  unfold namesM at m
  split at m
  · obtain ⟨q, mq, rfl⟩ := List.mem_map.mp (List.mem_of_mem_take m)
    have := List.all_eq_true.mp (plots_ok ns) q mq
    unfold okP at this
    rw [Bool.and_eq_true] at this
    exact this.1
  · obtain ⟨k, mk, rfl⟩ := List.mem_map.mp m
    rw [List.mem_range] at mk
    refine strOk_of (callL_low (c := ns.getD 2 0 / 80) (k := k) (sg := [97 + k / 26, 122 - k % 26]) fun x h => ?_)
    simp only [List.mem_cons, List.not_mem_nil, or_false] at h
    omega
theorem abc3_at (k : Nat) (h : k < 3) : atI (Str.ofString "abc").cps.toList ((k : Nat) : Int) = some (97 + k) := by
  have : ∀ n : Nat, n < 3 → atI (Str.ofString "abc").cps.toList ((n : Nat) : Int) = some (97 + n) := by decide +kernel
  exact this k h
theorem zyx_at (k : Nat) (h : k < 26) : atI (Str.ofString "zyxwvutsrqponmlkjihgfedcba").cps.toList ((k : Nat) : Int) = some (122 - k) := by
  have : ∀ n : Nat, n < 26 → atI (Str.ofString "zyxwvutsrqponmlkjihgfedcba").cps.toList ((n : Nat) : Int) = some (122 - n) := by decide +kernel
  exact this k h
theorem cutD_to (ds : List PyData) (k : Nat) : PL.cutD ds none (some (k : Int)) = ds.take k := by
  unfold PL.cutD
  have h0 : HT.sIx ds.length 0 none = 0 := rfl
  rw [h0, List.drop_zero, Nat.sub_zero]
  have : HT.sIx ds.length ds.length (some (k : Int)) = min k ds.length := by
    unfold HT.sIx
    simp only
    split <;> omega
  rw [this, Nat.min_comm, List.take_eq_take_iff]
  omega
theorem strix_ev {a b : PL.Env → Option PyData} {env : PL.Env} {z : Str} {i : Int} {c : Nat} (ha : a env = some (.str z)) (hb : b env = some (.int i)) (hl : z.length ≤ 100000) (h : atI z.cps.toList i = some c) : e2 gIx a b env = some (.str ⟨#[c]⟩) := by
  unfold e2
  rw [ha, hb]
  show (if z.length ≤ 100000 then (atI z.cps.toList i).map fun c => PyData.str ⟨#[c]⟩ else none) = _
  rw [if_pos hl, h]
  rfl
theorem cutD_from (ds : List PyData) (k : Nat) : PL.cutD ds (some (k : Int)) none = ds.drop k := by
  unfold PL.cutD
  rw [HT.sIx_none, HT.sIx_nat]
  by_cases h : k ≤ ds.length
  · rw [Nat.min_eq_left h, List.take_of_length_le]
    rw [List.length_drop]
    exact Nat.le_refl _
  · rw [Nat.min_eq_right (by omega), Nat.sub_self, List.take_zero, List.drop_eq_nil_of_le (by omega)]
theorem flat_strs : ∀ l : List Str, flatDs (l.map PyData.str) = some (l.map V.str)
  | [] => rfl
  | x :: l => by
    show (flatDs (l.map PyData.str)).map _ = _
    rw [flat_strs l]
    rfl
theorem int_ev {neg : Bool} {a b : PL.Env → Option PyData} {env : PL.Env} {x : Str} {l : List Str} (ha : a env = some (.str x)) (hb : b env = some (.tuple (l.map PyData.str))) : tE (e2 (gInT neg) a b) env = some (if neg then !decide (x ∈ l) else decide (x ∈ l)) := by
  refine te2r_ev ha hb ?_
  show (flatDs (l.map PyData.str)).bind (fun vs => some (PyData.bool (if neg then !inV (V.str x) vs else inV (V.str x) vs))) = _
  rw [flat_strs, Option.bind_some, inV_strs]
theorem word_ev {a : PL.Env → Option PyData} {env : PL.Env} {r : PL.Row} (h : a env = some (encR r)) : e2 gIx a (eC (.int 0)) env = some (.str (wordR r)) := by
  rw [encR_rowD] at h
  exact ixt_ev (i := 0) h rfl (by cases r <;> rfl)
theorem row_texts {ps : List (Str × Option Str)} {nms : List Str} (h1 : 0 < ps.length) (h2 : 0 < nms.length) (hp : ps.all okP = true) (hn : ∀ x ∈ nms, PyData.strOk x = true) (c sz : Int) : ∀ x ∈ textsR (rowM ps nms c sz), PyData.strOk x = true := by
  have hn' : ∀ i, PyData.strOk (pickS nms i) = true := fun i => hn _ (pickS_mem h2)
  have hp' : ∀ i, PyData.strOk (pickS (ps.map (·.1)) i) = true := fun i => by
    obtain ⟨q, mq, e⟩ := List.mem_map.mp (pickS_mem (l := ps.map (·.1)) (i := i) (by rw [List.length_map]; exact h1))
    rw [← e]
    have := List.all_eq_true.mp hp q mq
    unfold okP at this
    rw [Bool.and_eq_true] at this
    exact this.1
  unfold rowM
  split <;> (intro x m; simp only [textsR, List.mem_cons, List.not_mem_nil, or_false] at m)
  all_goals first | (rcases m with rfl | rfl | rfl <;> first | exact hn' _ | exact hp' _) | (rcases m with rfl | rfl <;> first | exact hn' _ | exact hp' _) | (subst m; first | exact hn' _ | exact hp' _) | exact absurd m (by simp)
theorem get_of_mem' {α : Type} {os : List (Str × α)} {q : Str × α} (nd : (os.map (·.1)).Nodup) (m : q ∈ os) : getA os q.1 = some q.2 := by
  induction os with
  | nil => cases m
  | cons r t ih =>
    rw [List.map_cons, List.nodup_cons] at nd
    unfold getA at ih ⊢
    rcases List.mem_cons.mp m with e | m
    · rw [← e, List.find?_cons_of_pos (by simp)]
      rfl
    · have ne : ¬ r.1 = q.1 := fun e => nd.1 (e ▸ List.mem_map_of_mem m)
      rw [List.find?_cons_of_neg (by simp [ne])]
      exact ih nd.2 m
theorem mem_of_get {α : Type} {os : List (Str × α)} {x : Str} {v : α} (h : getA os x = some v) : (x, v) ∈ os := by
  unfold getA at h
  obtain ⟨q, hq, rfl⟩ := Option.map_eq_some_iff.mp h
  have m := List.mem_of_find?_eq_some hq
  have e := List.find?_some hq
  rw [← of_decide_eq_true e]
  exact m
theorem kb1 : kitB "int" "int" = some true := by decide +kernel
theorem kb2 : kitB "int" "bool" = some false := by decide +kernel
theorem kb3 : kitB "str" "str" = some true := by decide +kernel
theorem kb4 : kitB "list" "list" = some true := by decide +kernel
theorem ne_same {a b : PL.Env → Option PyData} {env : PL.Env} {d : PyData} (ha : a env = some d) (hb : b env = some d) (hf : SeqAt.shaped d = true) (hr : PyData.eqv d d = true) : tE (e2 gNe a b) env = some false := by
  unfold tE e2
  rw [ha, hb]
  show (if SeqAt.shaped d && SeqAt.shaped d then some (PyData.bool (!PyData.eqv d d)) else none).bind asB = _
  rw [hf, hr]
  rfl
theorem eqv_ints : ∀ l : List Int, PyData.eqv (.list (l.map PyData.int)) (.list (l.map PyData.int)) = true
  | [] => rfl
  | a :: l => by
    show (PyData.eqv (.int a) (.int a) && PyData.eqvAll (l.map PyData.int) (l.map PyData.int)) = true
    have := eqv_ints l
    have h2 : PyData.eqvAll (l.map PyData.int) (l.map PyData.int) = true := this
    rw [h2, eqv_int]
    simp
theorem fit_ints (l : List Int) : Fit 1 (.list (l.map PyData.int)) := fit_list fun d m => by
  obtain ⟨z, _, rfl⟩ := List.mem_map.mp m
  exact fit_int 0 z
theorem isi_ev {a : PL.Env → Option PyData} {env : PL.Env} {d : PyData} {n : String} {b : Bool} (ha : a env = some d) (h : gIsi n d = some (.bool b)) : tE (e1 (gIsi n) a) env = some b := by
  unfold tE e1
  rw [ha, Option.bind_some, h]
  rfl
theorem isi_str (z : Str) : gIsi "str" (.str z) = some (.bool true) := by
  show (kitB "str" "str").map PyData.bool = _
  rw [kb3]
  rfl
theorem isi_list (l : List PyData) : gIsi "list" (.list l) = some (.bool true) := by
  show (kitB "list" "list").map PyData.bool = _
  rw [kb4]
  rfl
theorem tN_ev {t : PL.Env → Option Bool} {env : PL.Env} {b : Bool} (h : t env = some b) : tN t env = some (!b) := by
  unfold tN
  rw [h]
  rfl
theorem six_ev {env : PL.Env} {ns : List Int} (h : env[0]? = some (.sh (scrD (ns.map PyData.int)))) : nSl (eVarO 0) (oSome (eC (.int 6))) oNone env = some ((ns.drop 6).map PyData.int) := by
  have h1 : eVarO 0 env = some (scrD (ns.map PyData.int)) := by
    unfold eVarO
    rw [h]
  unfold nSl
  rw [h1]
  show some (PL.cutD (ns.map PyData.int) (some ((6 : Nat) : Int)) none) = _
  rw [cutD_from, List.map_drop]
theorem callN1_ev {f : List PyData → Option (List PyData)} {a : PL.Env → Option PyData} {env : PL.Env} {x : PyData} {ds : List PyData} (ha : a env = some x) (h : f [x] = some ds) : eL (fun env => ((aCons a aNil) env).bind fun ds => if ds.length = 1 then f ds else none) env = some (.list ds) := by
  show Option.map PyData.list (((a env).bind fun d => some [d]).bind fun ds => if ds.length = 1 then f ds else none) = _
  rw [ha]
  show (f [x]).map PyData.list = _
  rw [h]
  rfl
theorem same_ev {a b : PL.Env → Option PyData} {env : PL.Env} {d : PyData} (ha : a env = some d) (hb : b env = some d) (hf : SeqAt.shaped d = true) (hr : PyData.eqv d d = true) : e2 gEq a b env = some (.bool true) := by
  unfold e2
  rw [ha, hb]
  show (if SeqAt.shaped d && SeqAt.shaped d then some (PyData.bool (PyData.eqv d d)) else none) = _
  rw [hf, hr]
  rfl
theorem call4_ev {f : List PyData → Option PyData} {a b c d : PL.Env → Option PyData} {env : PL.Env} {x y u v z : PyData} (ha : a env = some x) (hb : b env = some y) (hc : c env = some u) (hd : d env = some v) (h : f [x, y, u, v] = some z) : eA (fun ds => if ds.length = 4 then f ds else none) (aCons a (aCons b (aCons c (aCons d aNil)))) env = some z := by
  unfold eA
  rw [acons_ev ha (acons_ev hb (acons_ev hc (acons_ev hd anil_ev)))]
  exact h
theorem ext_nx {i : Nat} {f : PL.Env → Option PyData} {env : PL.Env} {ds es : List PyData} (h1 : env[i]? = some (.own ds)) (h2 : f env = some (.list es)) (h3 : ds.length + es.length ≤ 100000) : sExt i f env = some (.nx (env.set i (.own (ds ++ es)))) := by
  unfold sExt
  rw [h1]
  show (f env).bind _ = _
  rw [h2]
  show (if ds.length + es.length ≤ 100000 then _ else none) = _
  rw [if_pos h3]
theorem free_ev {i : Nat} {F : PL.Env → Option Out} {env : PL.Env} {ds : List PyData} (h : env[i]? = some (.own ds)) : sFree i F env = F (env.set i (.sh (.list ds))) := by
  unfold sFree frE
  rw [h]
  rfl
theorem own_nx {f : PL.Env → Option (List PyData)} {i : Nat} {env : PL.Env} {ds : List PyData} (h : f env = some ds) : sOwn f i env = some (.nx (env.set i (.own ds))) := by
  unfold sOwn
  rw [h]
  rfl
theorem and_ev {a b : PL.Env → Option PyData} {env : PL.Env} {d : PyData} (ha : a env = some (.bool true)) (hb : b env = some d) : eAndB a b env = some d := by
  unfold eAndB tE
  rw [ha]
  exact hb
theorem fit_p {q : Str × Option Str} (h : okP q = true) : Fit 1 (encP q) := by
  obtain ⟨n, o⟩ := q
  unfold okP at h
  rw [Bool.and_eq_true] at h
  refine fit_tup (n := 0) fun e me => ?_
  simp only [List.mem_cons, List.not_mem_nil, or_false] at me
  rcases me with rfl | rfl
  · exact fit_str 0 h.1
  · cases o with
    | none => exact fit_none 0
    | some x => exact fit_str 0 h.2
theorem eqv_p (q : Str × Option Str) : PyData.eqv (encP q) (encP q) = true := by
  obtain ⟨n, o⟩ := q
  show (PyData.eqv (.str n) (.str n) && (PyData.eqv (optD o) (optD o) && true)) = true
  cases o with
  | none =>
    rw [eqv_str]
    simp
    rfl
  | some x =>
    show (PyData.eqv (.str n) (.str n) && (PyData.eqv (.str x) (.str x) && true)) = true
    rw [eqv_str, eqv_str]
    simp
theorem eqv_ps : ∀ l : List (Str × Option Str), PyData.eqvAll (l.map encP) (l.map encP) = true
  | [] => rfl
  | q :: l => by
    show (PyData.eqv (encP q) (encP q) && PyData.eqvAll (l.map encP) (l.map encP)) = true
    rw [eqv_p, eqv_ps l]
    rfl
theorem fit_ps {l : List (Str × Option Str)} (h : l.all okP = true) : Fit 2 (encPs l) := fit_list fun d m => by
  obtain ⟨q, mq, rfl⟩ := List.mem_map.mp m
  exact fit_p (List.all_eq_true.mp h q mq)
end PR
/-! dict(pairs), the pairs' keys texts, each once. -/
namespace PL
open PySem L2 PySem.Spec PyProof.Rows
def pairD : PyData → Option (Str × PyData)
  | .tuple [.str k, d] => some (k, d)
  | _ => none
def pairsD : List PyData → Option (List (Str × PyData))
  | [] => some []
  | d :: ds => (pairD d).bind fun q => (pairsD ds).map (q :: ·)
def gDict : List PyData → Option PyData
  | [.list ds] => (pairsD ds).bind fun ps => if (ps.map (·.1)).Nodup then some (.dict (kvP (ps.map (·.1)) (ps.map (·.2)))) else none
  | _ => none
section
variable {K : PySem.W.Frag} {H : Hp}
theorem pair_rp {d : PyData} {q : Str × PyData} {v : V} (h : Rp K H v d) (e : pairD d = some q) : ∃ a u, v = .ref a ∧ SqT K H a [.str q.1, u] ∧ Rp K H u q.2 := by
  unfold pairD at e
  split at e
  · cases e
    cases h with
    | tup h r =>
      cases r with
      | cons r1 r =>
        cases r1
        cases r with
        | cons r2 r =>
          cases r
          exact ⟨_, _, rfl, h, r2⟩
  · cases e
theorem pairs_rp : ∀ {ds : List PyData} {ps : List (Str × PyData)} {vs : List V}, RpAll K H vs ds → pairsD ds = some ps → ∃ (as : List Addr) (us : List V), vs = as.map V.ref ∧ us.length = ps.length ∧ Paired (fun p (kv : Key × V) => SqT K H p [kV kv.1, kv.2]) as (kvV (ps.map (·.1)) us) ∧ RpAll K H us (ps.map (·.2))
  | [], ps, _, .nil, e => by
    cases e
    exact ⟨[], [], rfl, rfl, .nil, .nil⟩
  | d :: ds, ps, _, .cons r t, e => by
    unfold pairsD at e
    obtain ⟨q, hq, e⟩ := Option.bind_eq_some_iff.mp e
    obtain ⟨ps', hp, rfl⟩ := Option.map_eq_some_iff.mp e
    obtain ⟨a, u, rfl, h1, r1⟩ := pair_rp r hq
    obtain ⟨as, us, rfl, hl, h2, r2⟩ := pairs_rp t hp
    exact ⟨a :: as, u :: us, rfl, by rw [List.length_cons, List.length_cons, hl], .cons h1 h2, .cons r1 r2⟩
abbrev rDictC (K : PySem.W.Frag) : List V → Hp → VK → Prop := fun xs H Q => ∃ a ps kvs, xs = [V.ref a] ∧ SqL K H a (List.map V.ref ps) ∧ Paired (fun p kv => SqT K H p [kV kv.fst, kv.snd]) ps kvs ∧ ∀ (p : Addr), H p = none → Q (V.ref p) (upd H p (HO.dK (mergeK [] kvs)))
theorem den_dictP {tr : TA} {fr : PL.Env → Option (List PyData)} (h : DenAP K tr fr) : DenP K (tCB (rDictC K) tr) (eA gDict fr) := by
  intro base O0 O σ H env d S e Q q
  unfold eA at e
  cases k1 : fr env with
  | none => simp [k1] at e
  | some xs =>
    simp only [k1, Option.bind_some] at e
    unfold gDict at e
    split at e
    · rename_i ds
      obtain ⟨ps, hp, e⟩ := Option.bind_eq_some_iff.mp e
      split at e
      case isFalse => cases e
      rename_i nd
      cases e
      refine h base O0 O σ H env _ S k1 _ fun vs H1 x1 r1 => ?_
      cases r1 with
      | cons o t =>
        cases t
        cases o with
        | lst hl r =>
          obtain ⟨as, us, rfl, hlen, hpr, ru⟩ := pairs_rp r hp
          have hlk : (ps.map (·.1)).length = us.length := by rw [List.length_map, hlen]
          refine ⟨_, as, kvV (ps.map (·.1)) us, rfl, SqL.of (vis_le _ _ hl), ?_, fun p hpn => ?_⟩
          · have go : ∀ {as : List Addr} {kvs : List (Key × V)}, Paired (fun p (kv : Key × V) => SqT K (vis O H1) p [kV kv.1, kv.2]) as kvs → Paired (fun p (kv : Key × V) => SqT K H1 p [kV kv.1, kv.2]) as kvs := fun {as kvs} pr => by
              induction pr with
              | nil => exact .nil
              | cons a _ ih => exact .cons (ex_t vis_le a) ih
            exact go hpr
          · have hm : mergeK [] (kvV (ps.map (·.1)) us) = kvV (ps.map (·.1)) us := by
              unfold mergeK
              rw [merge_new _ [] (by rw [List.nil_append, kvV_keys hlk]; exact keys_nd nd)]
              rfl
            rw [hm]
            refine q _ _ (x1.trans (Ex.new hpn)) (.dic (vis_at ?_ upd_same) hlk (ru.mono (vis_mono (Ex.new hpn))))
            cases z : O p with
            | false => rfl
            | true => exact absurd hpn ((S.mono x1).all p z)
    · cases e
end
section
variable {K : PySem.W.Frag} {X : Cx} {e : Expr} {es : List Expr} {tr : TA} {fr : PL.Env → Option (List PyData)} {p pos : Pos}
theorem fDict (hm : X.mg "dict" = none) (hc : X.calm = true := by rfl) (hg : Gl X "dict" := by rfl) (ha : EB K X (e :: es) tr fr) (he : starEach (e :: es) X.env = (false, eval e X.env) :: starEach es X.env := by rfl) (hpl : (backTo pos (starEach es X.env)).any (·.1) = false := by rfl) (hK : X.K = K := by rfl) :
    EP K X (.Call (.Name "dict" p) (e :: es) [] pos) (tCB (rDictC K) tr) (eA gDict fr) := by
  subst hK
  exact ⟨pe_callTy (call_dictP hc) hg hm (by decide +kernel) ha.pe (by decide) (by decide) he hpl, den_dictP ha.de⟩
end
/-! ### the truth of any flat value -/
def truD : PyData → Option Bool
  | .none => some false
  | .bool b => some b
  | .int i => some (i != 0)
  | .str z => if z.length ≤ 100000 then some ((z.length : Int) != 0) else none
  | _ => none
def tV (f : PL.Env → Option PyData) : PL.Env → Option Bool := fun env => (f env).bind truD
section
variable {K : PySem.W.Frag} {X : Cx} {e : Expr} {te : TE} {f : PL.Env → Option PyData}
theorem den_tru (h : Den K te f) : DenT K (fun σ H Q => te σ H fun x H' => ∃ k, TruV K x H' k ∧ Q k H') (tV f) := by
  intro base O0 O σ H env b S e Q q
  unfold tV at e
  cases h1 : f env with
  | none => simp [h1] at e
  | some x =>
    simp only [h1, Option.bind_some] at e
    refine h base O0 O σ H env x S h1 _ fun v H1 e1 o1 => ?_
    unfold truD at e
    split at e
    · cases e
      rcases o1 with r | ⟨_, _, _, _, _, _, z⟩ | ⟨_, z, _⟩
      · cases r
        exact ⟨false, rfl, q _ e1⟩
      · cases z
      · cases z
    · cases e
      rw [o1.bl]
      exact ⟨_, rfl, q _ e1⟩
    · cases e
      rw [o1.int]
      exact ⟨_, rfl, q _ e1⟩
    · split at e
      case isFalse => cases e
      rename_i hl
      cases e
      rw [o1.str]
      exact ⟨_, ⟨Nat.le_trans hl (by decide), rfl⟩, q _ e1⟩
    · cases e
theorem tTru_ (h : EO K X e te f) (he : ∀ whole, isTrue e X.env whole = (do let v ← whole; standAt e.pos; holding [v] (truthy v)) := by intro _; rfl) (hK : X.K = K := by rfl) : ET K X e (fun σ H Q => te σ H fun x H' => ∃ k, TruV K x H' k ∧ Q k H') (tV f) := by
  subst hK
  exact ⟨pt_truth h.pe he, den_tru h.de⟩
end
end PL
/-! A dict of a frame's own, keys texts or numbers; tables of the top; zip of tuples. -/
namespace PL
open PySem L2 PySem.Spec PyProof.Rows
/-! ### zip of tuples -/
def asTu : PyData → Option (List PyData)
  | .tuple ds => some ds
  | _ => none
def iZt (f : Env → Option (List PyData)) : Env → Option (List PyData) := fun env => (f env).bind fun
  | [d, e] => (asTu d).bind fun xs => (asTu e).map fun ys => zipD xs ys
  | _ => none
section
variable {K : PySem.W.Frag} {tr : TA} {fr : PL.Env → Option (List PyData)}
theorem asTu_rp {H : Hp} {v : V} {d : PyData} {es : List PyData} (r : Rp K H v d) (h : asTu d = some es) : ∃ a vs, v = .ref a ∧ SqT K H a vs ∧ RpAll K H vs es := by
  unfold asTu at h
  split at h
  · cases h
    cases r with
    | tup h r => exact ⟨_, _, rfl, h, r⟩
  · cases h
theorem den_izt (h : DenAP K tr fr) : DenI K (RZ.iZipA K tr) (iZt fr) := by
  intro base O0 O σ H env ds S e R q
  unfold iZt at e
  cases k1 : fr env with
  | none => simp [k1] at e
  | some xs =>
    simp only [k1, Option.bind_some] at e
    split at e
    · rename_i d1 d2
      cases k2 : asTu d1 with
      | none => simp [k2] at e
      | some es =>
        cases k3 : asTu d2 with
        | none => simp [k2, k3] at e
        | some fs =>
          simp only [k2, k3, Option.bind_some, Option.map_some] at e
          cases e
          refine h base O0 O σ H env _ S k1 _ fun vs H1 x1 r1 => ?_
          cases r1 with
          | cons o t =>
            cases t with
            | cons o2 t =>
              cases t
              obtain ⟨a, vs, rfl, hs, r'⟩ := asTu_rp o k2
              obtain ⟨b, ws, rfl, hs2, r2'⟩ := asTu_rp o2 k3
              refine ⟨a, b, vs, ws, rfl, .inr ⟨ex_t vis_le hs, ex_t vis_le hs2, q _ H1 x1 fun O2 H2 al e1 e2 => ⟨fun i d hd => ?_, fun i hi => ?_⟩⟩⟩
              · obtain ⟨x, y, hx, hy, rfl⟩ := zipD_at es fs i d hd
                obtain ⟨v, hv, rv⟩ := r'.get hx
                obtain ⟨w, hw, rw_⟩ := r2'.get hy
                refine ⟨⟨vs, ws, v, w, ex_t e1 hs, ex_t e1 hs2, hv, hw⟩, fun x H3 yy => ?_⟩
                obtain ⟨T, x2, y2, rfl, hT, rfl, y3, y4⟩ := yy
                have z := y3 vs (ex_t e1 hs)
                rw [hv] at z
                cases z
                have z2 := y4 ws (ex_t e1 hs2)
                rw [hw] at z2
                cases z2
                exact new_tup al hT (.cons (rv.mono e2) (.cons (rw_.mono e2) .nil))
              · rw [zipD_len] at hi
                exact ⟨vs, ws, ex_t e1 hs, ex_t e1 hs2, by rw [r'.length, r2'.length]; omega⟩
    · cases e
end
section
variable {K : PySem.W.Frag} {X : Cx} {a b : Expr} {tr : TA} {fr : PL.Env → Option (List PyData)} {p pos : Pos} {elts : List Expr} {kk : Nat} {tpos : Pos}
theorem iZt_ (hm : X.mg "zip" = none) (ha : EB K X [a, b] tr fr) (hg : Gl X "zip" := by rfl) (hs : starEach [a, b] X.env = (false, eval a X.env) :: starEach [b] X.env := by rfl) (h2 : (backTo pos (starEach [b] X.env)).any (·.1) = false := by rfl) (hK : X.K = K := by rfl) :
    EI K X (.Tuple elts kk tpos) (.Call (.Name "zip" p) [a, b] [] pos) (RZ.iZipA K tr) (iZt fr) := by
  subst hK
  exact ⟨RZ.pi_zipA hg hm ha.pe hs h2, den_izt ha.de⟩
end
/-! ### a table of the top: tuples of texts by texts -/
def lookT (tb : List (Str × List Str)) (z : Str) : Option (List Str) := (tb.find? fun q => decide (q.1 = z)).map (·.2)
structure TabOk (K : PySem.W.Frag) (w : World) (p : Addr) (tb : List (Str × List Str)) : Prop where
  at_ : ∀ q ∈ tb, ∃ t, KDct K w p q.1 (.ref t) ∧ ∀ H : Hp, SqT K H t (q.2.map V.str)
def eTab (tb : List (Str × List Str)) (f : PL.Env → Option PyData) : PL.Env → Option PyData := fun env => (f env).bind fun
  | .str z => (lookT tb z).map fun ks => .tuple (ks.map PyData.str)
  | _ => none
section
variable {K : PySem.W.Frag} {w : World} {p : Addr} {tb : List (Str × List Str)} {te : TE} {f : PL.Env → Option PyData}
theorem den_tab (T : TabOk K w p tb) (h : Den K te f) : DenP K (tOp (rIxD K w) (tC (.ref p)) te) (eTab tb f) := by
  intro base O0 O σ H env d S e Q q
  unfold eTab at e
  cases k1 : f env with
  | none => simp [k1] at e
  | some x =>
    simp only [k1, Option.bind_some] at e
    split at e
    · rename_i z
      obtain ⟨ks, hk, rfl⟩ := Option.map_eq_some_iff.mp e
      unfold lookT at hk
      obtain ⟨r, hr, rfl⟩ := Option.map_eq_some_iff.mp hk
      have hm := List.mem_of_find?_eq_some hr
      have hz : r.1 = z := by
        have h := List.find?_some hr
        exact of_decide_eq_true h
      obtain ⟨t, hd, ht⟩ := T.at_ r hm
      refine h base O0 O σ H env _ S k1 _ fun v H1 x1 o1 => ?_
      rw [o1.str]
      refine ⟨p, z, .ref t, rfl, rfl, hz ▸ hd, q _ H1 x1 (.tup (ht _) (RpAll.strs _))⟩
    · cases e
end
section
variable {K : PySem.W.Frag} {X : Cx} {e : Expr} {te : TE} {f : PL.Env → Option PyData} {x : Str} {px pos : Pos} {tb : List (Str × List Str)} {p : Addr}
theorem eTb (T : TabOk K X.w p tb) (hm : X.mg x = some (.ref p)) (h : EO K X e te f) (hg : Gl X x := by rfl) (hs : PlainIx e := by exact fun _ _ => rfl) (hdb : (x == ("__debug__" : Str)) = false := by decide) (hK : X.K = K := by rfl) : EP K X (.Subscript (.Name x px) e pos) (tOp (rIxD K X.w) (tC (.ref p)) te) (eTab tb f) := by
  subst hK
  exact ⟨pe_ix ix_kdict (pe_glob hg hm rfl hdb) h.pe hs, den_tab T h.de⟩
end
/-- a table of the top by its facts -/
theorem tab_at {K : PySem.W.Frag} {w : World} {p t : Addr} {es : Array DictEntry} {n : Nat} {ks vs : List Str} {z : Str} {od : Option Addr} {its : Array Value} {m : Nat} {sl : Array (Option Value)} (hl : K.lookup p = some ⟨.type "dict", none, .dict es n, #[]⟩) (hd : es.toList.map He.keyOf = He.keysIn w.params ks) (hn : PySem.W.nsIn K p z = some (some (.ref t))) (ht : K.lookup t = some ⟨.type "tuple", od, .seq its m, sl⟩) (hs : its.size ≤ 1000) (hr : He.relAll (vs.map V.str) its.toList = true) : ∃ t, KDct K w p z (.ref t) ∧ ∀ H : Hp, SqT K H t (vs.map V.str) :=
  ⟨t, ⟨es, n, _, hl, He.keysLit_of hd, hn, rfl⟩, fun H => .inr ⟨_, its, m, ht, rfl, rfl, Nat.le_trans hs (by rw [sizeLine_eq]; decide), He.relAll_ok hr⟩⟩
/-! ### a dict that a frame fills -/
def keyD : PyData → Option Key
  | .str x => some (Sum.inr x)
  | .int i => some (Sum.inl i)
  | _ => none
def keyP : Key → PyData
  | .inl i => .int i
  | .inr x => .str x
def sDNew (i : Nat) : PL.Env → Option Out := fun env => if i < env.length then some (.nx (env.set i (.ob (.dk [])))) else none
/-- d[k] = v, v flat -/
def sDSet (i : Nat) (fk fv : PL.Env → Option PyData) : PL.Env → Option Out := fun env => (fv env).bind fun dv => (flatD dv).bind fun v => match env[i]? with
  | some (.ob (.dk kvs)) => (fk env).bind fun dk => (keyD dk).bind fun k => if kvs.length < 50000 then some (.nx (env.set i (.ob (.dk (putK kvs k v))))) else none
  | _ => none
def nKeys (i : Nat) : PL.Env → Option (List PyData) := fun env => match env[i]? with
  | some (.ob (.dk kvs)) => some (kvs.map fun q => keyP q.1)
  | _ => none
section
variable {K : PySem.W.Frag} {base : Hp} {O0 O : Hid} {σ : L2.St} {H : Hp} {env : PL.Env} {i : Nat}
theorem dk_obr {v : V} {fp : List Addr} {B : Hp} {kvs : List (Key × V)} (r : ObR K v fp H B (.dk kvs)) : ∃ p, v = .ref p ∧ fp = [p] ∧ H p = some (.dK kvs) := by
  obtain ⟨_, _, p, rfl, rfl, h⟩ := r
  exact ⟨p, rfl, rfl, (rst_some h).2⟩
theorem obr_dk {p : Addr} {B : Hp} {kvs : List (Key × V)} (h : H p = some (.dK kvs)) : ObR K (.ref p) [p] H B (.dk kvs) := ⟨by simp, (fun a m => by rw [List.mem_singleton.mp m, h]; exact fun z => by cases z), p, rfl, rfl, rst_at (List.mem_singleton.mpr rfl) h⟩
theorem Sat.dk {kvs : List (Key × V)} (S : Sat K base O0 O σ H env) (hi : env[i]? = some (.ob (.dk kvs))) : ∃ p, σ[i]? = some (some (.ref p)) ∧ H p = some (.dK kvs) ∧
    ∀ kvs', ∃ O', PL.Ex (vis O H) (vis O' (upd H p (.dK kvs'))) ∧ Sat K base O0 O' σ (upd H p (.dK kvs')) (env.set i (.ob (.dk kvs'))) := by
  obtain ⟨v, fp, hx, oa, r, mv⟩ := S.mutOb hi
  obtain ⟨p, rfl, rfl, hp⟩ := dk_obr r
  refine ⟨p, hx, hp, fun kvs' => ?_⟩
  obtain ⟨ev, S2⟩ := mv (upd H p (.dK kvs')) [p] (.dk kvs') (Moved.wr (by simp) (List.mem_singleton.mpr rfl)) (obr_dk upd_same)
  exact ⟨_, ev, S2⟩
theorem dens_dnew : DenS K (tAsg tDNewK (gName i)) (sDNew i) := by
  intro base O0 O σ H env o D S e P
  unfold sDNew at e
  split at e
  case isFalse => cases e
  rename_i hi
  cases e
  intro p hp
  have ex : PL.Ex H (upd H p (.dK [])) := Ex.new hp
  have S2 := S.setOb (i := i) ex (fp := [p]) (fun b m => by rw [List.mem_singleton.mp m]; exact hp) (obr_dk upd_same) hi
  exact P _ _ _ (vis_moved (fp := []) (fun b u hb _ => ex b u hb) (fun b m => .inr (by rw [List.mem_singleton.mp m]; exact hp)) (fun a m => nomatch m)) S2
variable {tk tv : TE} {fk fv : PL.Env → Option PyData}
theorem dens_dset (hk : DenP K tk fk) (hv : DenP K tv fv) : DenS K (sDPut (tVar i) tk tv) (sDSet i fk fv) := by
  intro base O0 O σ H env o D S e P
  unfold sDSet at e
  cases k1 : fv env with
  | none => simp [k1] at e
  | some dv =>
    simp only [k1, Option.bind_some] at e
    cases k2 : flatD dv with
    | none => simp [k2] at e
    | some v =>
      simp only [k2, Option.bind_some] at e
      split at e
      · rename_i kvs hi
        cases k3 : fk env with
        | none => simp [k3] at e
        | some dk =>
          simp only [k3, Option.bind_some] at e
          cases k4 : keyD dk with
          | none => simp [k4] at e
          | some k =>
            simp only [k4, Option.bind_some] at e
            split at e
            case isFalse => cases e
            rename_i hl
            cases e
            refine hv base O0 O σ H env _ S k1 _ fun u H1 x1 r1 => ?_
            have S1 := S.mono x1
            have hu : u = v := by
              unfold flatD at k2
              split at k2 <;> cases k2 <;> cases r1 <;> rfl
            subst hu
            obtain ⟨p, hx, hp, _⟩ := S1.dk hi
            refine ⟨_, hx, ?_⟩
            refine hk base O0 O σ H1 env _ S1 k3 _ fun y H2 x2 r2 => ?_
            have S2 := S1.mono x2
            obtain ⟨p', hx2, hp2, mv⟩ := S2.dk hi
            rw [hx] at hx2
            cases hx2
            have hy : y = kV k := by
              unfold keyD at k4
              split at k4 <;> cases k4 <;> cases r2 <;> rfl
            subst hy
            refine ⟨p, _, rfl, DPut.k hp2 (Nat.lt_of_lt_of_le hl (by rw [sizeLine_eq]; decide)), ?_⟩
            obtain ⟨O', ev, S3⟩ := mv (putK kvs k u)
            exact P O' σ _ ((vis_mono (x1.trans x2)).trans ev) S3
      · cases e
theorem den_keys : DenN K (tCB (fun xs H Q => ∃ (a : Addr) (kvs : List (Key × V)), xs = [.ref a] ∧ Rd H a (.dK kvs) ∧ ∀ p, H p = none → Q (.ref p) (upd H p (.lst (kvs.map fun kv => kV kv.1)))) (tCons (tVar i) tNil)) (nKeys i) := by
  intro base O0 O σ H env ds S e Q q
  unfold nKeys at e
  split at e
  · rename_i kvs hi
    cases e
    obtain ⟨p, hx, hp, _⟩ := S.dk hi
    refine ⟨_, hx, p, kvs, rfl, .inl hp, fun l hl => ?_⟩
    refine q l _ _ hl (Ex.new hl) upd_same ?_
    have : ∀ {B : Hp} (l : List (Key × V)), RpAll K B (l.map fun kv => kV kv.1) (l.map fun q => keyP q.1) := fun {B} l => by
      induction l with
      | nil => exact .nil
      | cons a l ih =>
        obtain ⟨k, v⟩ := a
        cases k with
        | inl i => exact .cons (.int i) ih
        | inr x => exact .cons (.str x) ih
    exact this _
  · cases e
end
section
variable {K : PySem.W.Frag} {X : Cx} {x : Str} {px pos p2 q : Pos} {e ek : Expr} {tk tv : TE} {fk fv : PL.Env → Option PyData}
theorem zDNew (i : Nat) (nd : X.N.Nodup) (hN : X.N[i]? = some x := by rfl) (hl : Loc X.env.scope x := by first | exact Or.inl rfl | exact Or.inr rfl) (hf : X.fn x = true ∨ X.env.scope.names.lookup x = some .local := by first | exact Or.inr rfl | exact Or.inl rfl) (hs : swapsWithSole [.Name x px] (.Dict [] [] p2) pos.line X.env = pure false := by rfl) (h2 : swappedStores [.Name x px] (.Dict [] [] p2) X.env = pure none := by rfl) (h4 : (assignEach [.Name x px] X.env).map (·.2) = [assign (.Name x px) X.env] := by rfl) :
    ES K X (.Assign [.Name x px] (.Dict [] [] p2) pos) (tAsg tDNewK (gName i)) (sDNew i) := ⟨ps_asg pe_dnewK (pg_name nd hN hl hf) hs h2 h4, dens_dnew⟩
theorem zDSet (hu : X.A.units + 1 < cLine) (i : Nat) (hx : PE X (.Name x px) (tVar i)) (hk : EP K X ek tk fk) (h : EP K X e tv fv) (hs : swapsWith e (some (.Subscript (.Name x px) ek p2)) pos.line X.env = pure false := by rfl) : ES K X (.Assign [.Subscript (.Name x px) ek p2] e pos) (sDPut (tVar i) tk tv) (sDSet i fk fv) :=
  ⟨ps_dput hu hx hk.pe h.pe hs, dens_dset hk.de h.de⟩
theorem fKeys (i : Nat) (hm : X.mg "list" = none) (hx : PE X (.Name x px) (tVar i)) (hc : X.calm = true := by rfl) (hg : Gl X "list" := by rfl) (h0 : starEach [.Name x px] X.env = (false, eval (.Name x px) X.env) :: starEach [] X.env := by rfl) (hpl : (backTo pos (starEach [] X.env)).any (·.1) = false := by rfl) :
    EN K X (.Call (.Name "list" q) [.Name x px] [] pos) (tCB (fun xs H Q => ∃ (a : Addr) (kvs : List (Key × V)), xs = [.ref a] ∧ Rd H a (.dK kvs) ∧ ∀ p, H p = none → Q (.ref p) (upd H p (.lst (kvs.map fun kv => kV kv.1)))) (tCons (tVar i) tNil)) (nKeys i) :=
  ⟨pe_callTy (call_listD hc) hg hm (by decide +kernel) (pa_cons hx pa_nil h0) (by decide) (by decide) h0 hpl, den_keys⟩
end
end PL
namespace K06
open PySem L2 PySem.Spec PyProof.Rows PL PR
def topS (i : Nat) : Stmt := PySem.Challenge.pw_plotfree_k06_facts_at_first.main.body.getD i (.Pass ⟨0, 0, 0, 0⟩)
def tab_SHAPES : List (Str × List Str) := [("open", ["plot"]), ("lay", ["name", "plot", "number"]), ("copy", ["name", "name", "plot"]), ("same", ["name", "name"]), ("add", ["name", "name"]), ("tell", ["name"]), ("give", ["plot"]), ("fork", ["place"]), ("go", ["place"]), ("end", [])]
structure Bt (mg : Str → Option Value) : Prop where
  bool : mg "bool" = none
  isinstance : mg "isinstance" = none
  len : mg "len" = none
  list : mg "list" = none
  range : mg "range" = none
  tuple : mg "tuple" = none
  zip : mg "zip" = none
section
variable {P : Program} {w : World} {K : PySem.W.Frag} {mg : Str → Option Value} {base : Heap}
/-! names_in: rows 0, names 1, row 2, part 3, kind 4 -/
abbrev s_names_in : Stmt := topS 3
abbrev N_names_in : List Str := ["rows", "names", "row", "part", "kind"]
theorem sc_names_in : FnScope N_names_in ["rows"] (defScope s_names_in) := ⟨rfl, rfl, rfl, by decide +kernel, rfl, by decide +kernel, by decide +kernel⟩
def F_names_in : PL.Env → Option Out := (sSeq (sDNew 1)
    (sSeq (sFor (iLS (eVar 0)) (tgN 2) (sFor (iZt (aCons (eSlT (eVarO 2) (oSome (eC (.int 1))) oNone) (aCons (eTab tab_SHAPES (e2 gIx (eVarO 2) (eC (.int 0)))) aNil))) (tgT 2 (tgCons (tgN 3) (tgCons (tgN 4) tgNil))) (sIf (tE (e2 gEq (eVarO 4) (eC (.str "name")))) (sDSet 1 (eVar 3) (eC (.bool true))) sNext)))
    (sRetN (nKeys 1))))
def f_names_in : List PyData → Option (List PyData) := fnN 5 F_names_in
theorem ok_names_in {f : Addr} {fd : FuncData} (F : Fun K "names_in" "names_in" s_names_in f fd) (T : Bt mg) {pSHAPES : Addr} (TB_SHAPES : TabOk K w pSHAPES tab_SHAPES) (mT_SHAPES : mg "SHAPES" = some (.ref pSHAPES)) : FnOk P w K mg base CX0 1 f fd ["rows"] (spN K 1 f_names_in) := by
  exact fn_denN (N := N_names_in) F sc_names_in (by decide) fun cdv A outer s H E hr => by
    have hu : (A.deeper (envOfC "names_in" (defScope s_names_in) s.heap.objs.size f cdv)).units + 65 < cLine := by have := hr.un; omega
    have hv : (A.deeper (envOfC "names_in" (defScope s_names_in) s.heap.objs.size f cdv)).units + 1 < cLine := by omega
    exact ek_out (K := K) ((PL.bC (zDNew 1 sc_names_in.nd)
    (PL.bC (zFor (S := [2]) PassesOwn.never (iL (vP 0)) (gN 2 sc_names_in.nd) (PL.b1 (zFor (S := [3, 4]) PassesOwn.never (iZt_ T.zip (yC (slT (vO 2) (qS (EP.o cI)) qN) (yC (eTb TB_SHAPES mT_SHAPES (EP.o (ixx (vO 2) (EP.o cI)))) yN))) (gT (gsC (gN 3 sc_names_in.nd) (gsC (gN 4 sc_names_in.nd) gs0))) (PL.b1 (zIf (tcmp (kEq hu) (vO 4) (EP.o cS)) (PL.b1 (zDSet hv 1 (pv 1) (vP 3) cB)) PL.b0)))))
    (PL.b1 (zRetN (fKeys 1 T.list (pv 1)))))))

/-! at_first: plots 0, rows 1, facts 2, plot 3, outer 4, name 5 -/
abbrev s_at_first : Stmt := topS 2
abbrev N_at_first : List Str := ["plots", "rows", "facts", "plot", "outer", "name"]
theorem sc_at_first : FnScope N_at_first ["plots", "rows"] (defScope s_at_first) := ⟨rfl, rfl, rfl, by decide +kernel, rfl, by decide +kernel, by decide +kernel⟩
def F_at_first : PL.Env → Option Out := (sSeq (sOwn (nLc (iLS (eVarO 0)) (tgT 2 (tgCons (tgN 3) (tgCons (tgN 4) tgNil))) (fun _ => some true) (eTup (aCons (eC (.str "plot")) (aCons (eVar 3) (aCons (eC (.bool false)) aNil)))) [3, 4]) 2)
    (sFree 2 (sRetN (nCat (eVarO 2) (eL (nLc (iLS (eL (fun env => ((aCons (eVar 1) aNil) env).bind fun ds => if ds.length = 1 then f_names_in ds else none))) (tgN 5) (fun _ => some true) (eTup (aCons (eC (.str "name")) (aCons (eVar 5) (aCons (eC .none) aNil)))) [5]))))))
def f_at_first : List PyData → Option (List PyData) := fnN 6 F_at_first
theorem ok_at_first {f : Addr} {fd : FuncData} (F : Fun K "at_first" "at_first" s_at_first f fd) (T : Bt mg) (Cnames_in : CalN P w K mg base 1 "names_in" 1 ["rows"] f_names_in) : FnOk P w K mg base CX0 2 f fd ["plots", "rows"] (spN K 2 f_at_first) := by
  exact fn_denN (N := N_at_first) F sc_at_first (by decide) fun cdv A outer s H E hr => by
    have hu : (A.deeper (envOfC "at_first" (defScope s_at_first) s.heap.objs.size f cdv)).units + 65 < cLine := by have := hr.un; omega
    have hv : (A.deeper (envOfC "at_first" (defScope s_at_first) s.heap.objs.size f cdv)).units + 1 < cLine := by omega
    exact ek_out (K := K) ((PL.bC (zLc 2 [("plot", 3), ("outer", 4)] s sc_at_first.nd (jL (vO 0)) (blkOk_by (own := [("plot", 3), ("outer", 4)]) (N := N_at_first) (sc := defScope s_at_first) (by decide +kernel)) (fun _ _ _ _ _ => (gT (gsC (gN 3 sc_at_first.nd) (gsC (gN 4 sc_at_first.nd) gs0)))) (fun _ _ _ _ _ => ts0) (fun _ _ _ _ _ => (dTup (yC cS (yC (vP 3) (yC cB yN))))) (sw_true rfl rfl rfl (by decide +kernel)))
    (EK.free 2 (PL.b1 (zRetN (bCat (vO 2) (EN.o (lcp [("name", 5)] s sc_at_first.nd (jL (EN.o (cal1N Cnames_in hr (by decide) (yC (vP 1) yN)))) (blkOk_by (own := [("name", 5)]) (N := N_at_first) (sc := defScope s_at_first) (by decide +kernel)) (fun _ _ _ _ _ => (gN 5 sc_at_first.nd)) (fun _ _ _ _ _ => ts0) (fun _ _ _ _ _ => (dTup (yC cS (yC (vP 5) (yC cN yN)))))))))))))

/-! _law_at: _law_script 0, _law_k 1 -/
abbrev s__law_at : Stmt := topS 5
abbrev N__law_at : List Str := ["_law_script", "_law_k"]
theorem sc__law_at : FnScope N__law_at ["_law_script", "_law_k"] (defScope s__law_at) := ⟨rfl, rfl, rfl, by decide +kernel, rfl, by decide +kernel, by decide +kernel⟩
def F__law_at : PL.Env → Option Out := (sSeq (sIf (tE (e2 (gB fun i j => decide (i < j)) (eVarO 1) (eA gLen (aCons (eVarO 0) aNil)))) (sRet (e2 gIx (eVarO 0) (eVarO 1))) sNext)
    (sRet (eC (.int 0))))
def f__law_at : List PyData → Option PyData := fnD 2 F__law_at
theorem ok__law_at {f : Addr} {fd : FuncData} (F : Fun K "_law_at" "_law_at" s__law_at f fd) (T : Bt mg) : FnOk P w K mg base CX0 1 f fd ["_law_script", "_law_k"] (spD K 2 f__law_at) := by
  exact fn_den (N := N__law_at) F sc__law_at (by decide) fun cdv A outer s H E hr => by
    have hu : (A.deeper (envOfC "_law_at" (defScope s__law_at) s.heap.objs.size f cdv)).units + 65 < cLine := by have := hr.un; omega
    have hv : (A.deeper (envOfC "_law_at" (defScope s__law_at) s.heap.objs.size f cdv)).units + 1 < cLine := by omega
    exact ek_out (K := K) ((PL.bC (zIf (tcmp kLt (vO 1) (EP.o (fLen T.len (ha := (xC (vO 0) xN))))) (PL.b1 (zRet (ixx (vO 0) (vO 1)))) PL.b0)
    (PL.b1 (zRet cI))))

/-! _law_called: _law_cell 0, _law_k 1, _law_signs 2, _law_letters 3, _law_turned 4, _law_size 5, _law_tail 6, _law_at_here 7, _law_j 8 -/
abbrev s__law_called : Stmt := topS 6
abbrev N__law_called : List Str := ["_law_cell", "_law_k", "_law_signs", "_law_letters", "_law_turned", "_law_size", "_law_tail", "_law_at_here", "_law_j"]
theorem sc__law_called : FnScope N__law_called ["_law_cell", "_law_k", "_law_signs"] (defScope s__law_called) := ⟨rfl, rfl, rfl, by decide +kernel, rfl, by decide +kernel, by decide +kernel⟩
def F__law_called : PL.Env → Option Out := (sSeq (sAsg (eC (.str "abcdefghijklmnopqrstuvwxyz")) (tgN 3))
    (sSeq (sAsg (e2 gAdd (eVarO 0) (e2 (gIC cMul (· * ·)) (e2 (gIC cMul (· * ·)) (eC (.int 31)) (eVarO 1)) (e2 (gIC cMod (· % ·)) (eVarO 0) (eC (.int 2))))) (tgN 4))
    (sSeq (sAsg (e2 (gIC cMod (· % ·)) (e2 (gIC cDiv (· / ·)) (eVarO 4) (eC (.int 26))) (e2 (gI (· - ·)) (eC (.int 9)) (eA gLen (aCons (eVarO 2) aNil)))) (tgN 5))
    (sSeq (sAsg (e2 gJoin (eC (.str "")) (eL (nLc (iR1 (aCons (eVarO 5) aNil)) (tgN 8) (fun _ => some true) (e2 gIx (eVarO 3) (e2 (gIC cMod (· % ·)) (e2 gAdd (eVarO 4) (e2 (gIC cMul (· * ·)) (e2 (gIC cMul (· * ·)) (eC (.int 5)) (eVarO 8)) (e2 gAdd (eC (.int 1)) (e2 (gIC cMod (· % ·)) (eVarO 4) (eC (.int 3)))))) (eC (.int 26)))) [8]))) (tgN 6))
    (sSeq (sAsg (eVar 5) (tgN 7))
    (sSeq (sIf (tE (e2 gEq (e2 (gIC cMod (· % ·)) (eVarO 0) (eC (.int 2))) (eC (.int 0)))) (sAsg (e2 (gIC cMod (· % ·)) (e2 (gIC cDiv (· / ·)) (eVarO 0) (eC (.int 4))) (e2 gAdd (eVarO 5) (eC (.int 1)))) (tgN 7)) sNext)
    (sRet (e2 gAdd (e2 gAdd (eSlS (eVarO 6) oNone (oSome (eVarO 7))) (eVarO 2)) (eSlS (eVarO 6) (oSome (eVarO 7)) oNone)))))))))
def f__law_called : List PyData → Option PyData := fnD 9 F__law_called
theorem ok__law_called {f : Addr} {fd : FuncData} (F : Fun K "_law_called" "_law_called" s__law_called f fd) (T : Bt mg) : FnOk P w K mg base CX0 1 f fd ["_law_cell", "_law_k", "_law_signs"] (spD K 3 f__law_called) := by
  exact fn_den (N := N__law_called) F sc__law_called (by decide) fun cdv A outer s H E hr => by
    have hu : (A.deeper (envOfC "_law_called" (defScope s__law_called) s.heap.objs.size f cdv)).units + 65 < cLine := by have := hr.un; omega
    have hv : (A.deeper (envOfC "_law_called" (defScope s__law_called) s.heap.objs.size f cdv)).units + 1 < cLine := by omega
    exact ek_out (K := K) ((PL.bC (zAsg cS (gN (S := [3]) 3 sc__law_called.nd))
    (PL.bC (zAsg (bAdd (vO 0) (EP.o (bMul (EP.o (bMul (EP.o cI) (vO 1))) (EP.o (bMod (vO 0) (EP.o cI)))))) (gN (S := [4]) 4 sc__law_called.nd))
    (PL.bC (zAsg (bMod (EP.o (bDiv (vO 4) (EP.o cI))) (EP.o (bSub (EP.o cI) (EP.o (fLen T.len (ha := (xC (vO 2) xN))))))) (gN (S := [5]) 5 sc__law_called.nd))
    (PL.bC (zAsg (fJoin (EP.o cS) (EN.o (lcp [("_law_j", 8)] s sc__law_called.nd (EI.j (iRa T.range (xC (vO 5) xN))) (blkOk_by (own := [("_law_j", 8)]) (N := N__law_called) (sc := defScope s__law_called) (by decide +kernel)) (fun _ _ _ _ _ => (gN 8 sc__law_called.nd)) (fun _ _ _ _ _ => ts0) (fun _ _ _ _ _ => (ixx (vO 3) (EP.o (bMod (EP.o (bAdd (vO 4) (EP.o (bMul (EP.o (bMul (EP.o cI) (vO 8))) (EP.o (bAdd (EP.o cI) (EP.o (bMod (vO 4) (EP.o cI))))))))) (EP.o cI)))))))) (gN (S := [6]) 6 sc__law_called.nd))
    (PL.bC (zAsg (vP 5) (gN (S := [7]) 7 sc__law_called.nd))
    (PL.bC (zIf (tcmp (kEq hu) (EP.o (bMod (vO 0) (EP.o cI))) (EP.o cI)) (PL.b1 (zAsg (bMod (EP.o (bDiv (vO 0) (EP.o cI))) (EP.o (bAdd (vO 5) (EP.o cI)))) (gN (S := [7]) 7 sc__law_called.nd))) PL.b0)
    (PL.b1 (zRet (bAdd (EP.o (bAdd (EP.o (slS (vO 6) qN (qS (vO 7)))) (vO 2))) (EP.o (slS (vO 6) (qS (vO 7)) qN))))))))))))

/-! _law_plots: _law_script 0, _law_many 1, _law_plots_here 2, _law_k 3, _law_pick 4, _law_outer 5 -/
abbrev s__law_plots : Stmt := topS 7
abbrev N__law_plots : List Str := ["_law_script", "_law_many", "_law_plots_here", "_law_k", "_law_pick", "_law_outer"]
theorem sc__law_plots : FnScope N__law_plots ["_law_script"] (defScope s__law_plots) := ⟨rfl, rfl, rfl, by decide +kernel, rfl, by decide +kernel, by decide +kernel⟩
def F__law_plots : PL.Env → Option Out := (sSeq (sAsg (e2 gAdd (eC (.int 1)) (e2 (gIC cMod (· % ·)) (eA (fun ds => if ds.length = 2 then f__law_at ds else none) (aCons (eVar 0) (aCons (eC (.int 0)) aNil))) (eC (.int 4)))) (tgN 1))
    (sSeq (sIf (tE (e2 gEq (e2 (gIC cMod (· % ·)) (e2 (gIC cDiv (· / ·)) (eA (fun ds => if ds.length = 2 then f__law_at ds else none) (aCons (eVar 0) (aCons (eC (.int 0)) aNil))) (eC (.int 4))) (eC (.int 8))) (eC (.int 1)))) (sAsg (e2 (gI (· - ·)) (eC (.int 12)) (e2 (gIC cMod (· % ·)) (e2 (gIC cDiv (· / ·)) (eA (fun ds => if ds.length = 2 then f__law_at ds else none) (aCons (eVar 0) (aCons (eC (.int 0)) aNil))) (eC (.int 32))) (eC (.int 8)))) (tgN 1)) sNext)
    (sSeq (sOwn (nLst aNil) 2)
    (sSeq (sFor (iR1 (aCons (eVarO 1) aNil)) (tgN 3) (sSeq (sAsg (e2 (gIC cMod (· % ·)) (e2 (gIC cMod (· % ·)) (e2 (gIC cMul (· * ·)) (e2 gAdd (eA (fun ds => if ds.length = 2 then f__law_at ds else none) (aCons (eVar 0) (aCons (eC (.int 1)) aNil))) (e2 (gIC cMul (· * ·)) (eC (.int 7)) (eVarO 3))) (eC (.int 48271))) (eC (.int 10007))) (e2 gAdd (eVarO 3) (eC (.int 1)))) (tgN 4))
    (sSeq (sIf (tA (tE (e2 gEq (e2 (gIC cMod (· % ·)) (eA (fun ds => if ds.length = 2 then f__law_at ds else none) (aCons (eVar 0) (aCons (eC (.int 1)) aNil))) (eC (.int 4))) (eC (.int 3)))) (tE (e2 (gB fun i j => decide (j < i)) (eVarO 3) (eC (.int 0))))) (sAsg (e2 (gI (· - ·)) (eVarO 3) (eC (.int 1))) (tgN 4)) sNext)
    (sSeq (sAsg (eC .none) (tgN 5))
    (sSeq (sIf (tE (e2 (gB fun i j => decide (i < j)) (eVarO 4) (eVarO 3))) (sAsg (e2 gIx (e2 gIx (eVarO 2) (eVarO 4)) (eC (.int 0))) (tgN 5)) sNext)
    (sApp 2 (eTup (aCons (eA (fun ds => if ds.length = 3 then f__law_called ds else none) (aCons (e2 (gIC cDiv (· / ·)) (eA (fun ds => if ds.length = 2 then f__law_at ds else none) (aCons (eVar 0) (aCons (eC (.int 1)) aNil))) (eC (.int 3))) (aCons (eVar 3) (aCons (e2 gIx (eC (.str "abcdefghijkl")) (eVarO 3)) aNil)))) (aCons (eVar 5) aNil)))))))))
    (sRetO 2)))))
def f__law_plots : List PyData → Option (List PyData) := fnN 6 F__law_plots
theorem ok__law_plots {f : Addr} {fd : FuncData} (F : Fun K "_law_plots" "_law_plots" s__law_plots f fd) (T : Bt mg) (C_law_at : Cal P w K mg base 1 "_law_at" 2 ["_law_script", "_law_k"] f__law_at) (C_law_called : Cal P w K mg base 1 "_law_called" 3 ["_law_cell", "_law_k", "_law_signs"] f__law_called) : FnOk P w K mg base CX0 2 f fd ["_law_script"] (spN K 1 f__law_plots) := by
  exact fn_denN (N := N__law_plots) F sc__law_plots (by decide) fun cdv A outer s H E hr => by
    have hu : (A.deeper (envOfC "_law_plots" (defScope s__law_plots) s.heap.objs.size f cdv)).units + 65 < cLine := by have := hr.un; omega
    have hv : (A.deeper (envOfC "_law_plots" (defScope s__law_plots) s.heap.objs.size f cdv)).units + 1 < cLine := by omega
    exact ek_out (K := K) ((PL.bC (zAsg (bAdd (EP.o cI) (EP.o (bMod (EP.o (cal1 C_law_at hr (by decide) (yC (vP 0) (yC cI yN)))) (EP.o cI)))) (gN (S := [1]) 1 sc__law_plots.nd))
    (PL.bC (zIf (tcmp (kEq hu) (EP.o (bMod (EP.o (bDiv (EP.o (cal1 C_law_at hr (by decide) (yC (vP 0) (yC cI yN)))) (EP.o cI))) (EP.o cI))) (EP.o cI)) (PL.b1 (zAsg (bSub (EP.o cI) (EP.o (bMod (EP.o (bDiv (EP.o (cal1 C_law_at hr (by decide) (yC (vP 0) (yC cI yN)))) (EP.o cI))) (EP.o cI)))) (gN (S := [1]) 1 sc__law_plots.nd))) PL.b0)
    (PL.bC (zOwn 2 sc__law_plots.nd (dLst yN))
    (PL.bC (zFor (S := [3]) PassesOwn.never (iRa T.range (xC (vO 1) xN)) (gN 3 sc__law_plots.nd) (PL.bC (zAsg (bMod (EP.o (bMod (EP.o (bMul (EP.o (bAdd (EP.o (cal1 C_law_at hr (by decide) (yC (vP 0) (yC cI yN)))) (EP.o (bMul (EP.o cI) (vO 3))))) (EP.o cI))) (EP.o cI))) (EP.o (bAdd (vO 3) (EP.o cI)))) (gN (S := [4]) 4 sc__law_plots.nd))
    (PL.bC (zIf (EW.tt (wA (tcmp (kEq hu) (EP.o (bMod (EP.o (cal1 C_law_at hr (by decide) (yC (vP 0) (yC cI yN)))) (EP.o cI))) (EP.o cI)) (wA1 (tcmp kGt (vO 3) (EP.o cI))))) (PL.b1 (zAsg (bSub (vO 3) (EP.o cI)) (gN (S := [4]) 4 sc__law_plots.nd))) PL.b0)
    (PL.bC (zAsg cN (gN (S := [5]) 5 sc__law_plots.nd))
    (PL.bC (zIf (tcmp kLt (vO 4) (vO 3)) (PL.b1 (zAsg (ixx (EP.o (ixx (vO 2) (vO 4))) (EP.o cI)) (gN (S := [5]) 5 sc__law_plots.nd))) PL.b0)
    (PL.b1 (zApp 2 (vO 2) (dTup (yC (cal1 C_law_called hr (by decide) (yC (bDiv (EP.o (cal1 C_law_at hr (by decide) (yC (vP 0) (yC cI yN)))) (EP.o cI)) (yC (vP 3) (yC (ixx (EP.o cS) (vO 3)) yN)))) (yC (vP 5) yN))))))))))
    (PL.b1 (zRetO 2 (vO 2))))))))

/-! _law_names: _law_script 0, _law_plots_here 1, _law_cell 2, _law_many 3, _law_ends 4, _law_k 5, _law_plot 6, _law_outer 7 -/
abbrev s__law_names : Stmt := topS 8
abbrev N__law_names : List Str := ["_law_script", "_law_plots_here", "_law_cell", "_law_many", "_law_ends", "_law_k", "_law_plot", "_law_outer"]
theorem sc__law_names : FnScope N__law_names ["_law_script", "_law_plots_here"] (defScope s__law_names) := ⟨rfl, rfl, rfl, by decide +kernel, rfl, by decide +kernel, by decide +kernel⟩
def F__law_names : PL.Env → Option Out := (sSeq (sAsg (eA (fun ds => if ds.length = 2 then f__law_at ds else none) (aCons (eVar 0) (aCons (eC (.int 2)) aNil))) (tgN 2))
    (sSeq (sAsg (e2 gAdd (eC (.int 1)) (e2 (gIC cMod (· % ·)) (eVarO 2) (eC (.int 5)))) (tgN 3))
    (sSeq (sIf (tE (e2 gEq (e2 (gIC cMod (· % ·)) (e2 (gIC cDiv (· / ·)) (eVarO 2) (eC (.int 5))) (eC (.int 16))) (eC (.int 3)))) (sAsg (eC (.int 60)) (tgN 3)) sNext)
    (sSeq (sIf (tE (e2 gEq (e2 (gIC cMod (· % ·)) (e2 (gIC cDiv (· / ·)) (eVarO 2) (eC (.int 5))) (eC (.int 4))) (eC (.int 1)))) (sRetN (nSl (eL (nLc (iLS (eVarO 1)) (tgT 2 (tgCons (tgN 6) (tgCons (tgN 7) tgNil))) (fun _ => some true) (eVar 6) [6, 7])) oNone (oSome (eVarO 3)))) sNext)
    (sSeq (sAsg (eC (.str "zyxwvutsrqponmlkjihgfedcba")) (tgN 4))
    (sRetN (nLc (iR1 (aCons (eVarO 3) aNil)) (tgN 5) (fun _ => some true) (eA (fun ds => if ds.length = 3 then f__law_called ds else none) (aCons (e2 (gIC cDiv (· / ·)) (eVarO 2) (eC (.int 80))) (aCons (eVar 5) (aCons (e2 gAdd (e2 gIx (eC (.str "abc")) (e2 (gIC cDiv (· / ·)) (eVarO 5) (eC (.int 26)))) (e2 gIx (eVarO 4) (e2 (gIC cMod (· % ·)) (eVarO 5) (eC (.int 26))))) aNil)))) [5])))))))
def f__law_names : List PyData → Option (List PyData) := fnN 8 F__law_names
theorem ok__law_names {f : Addr} {fd : FuncData} (F : Fun K "_law_names" "_law_names" s__law_names f fd) (T : Bt mg) (C_law_at : Cal P w K mg base 1 "_law_at" 2 ["_law_script", "_law_k"] f__law_at) (C_law_called : Cal P w K mg base 1 "_law_called" 3 ["_law_cell", "_law_k", "_law_signs"] f__law_called) : FnOk P w K mg base CX0 2 f fd ["_law_script", "_law_plots_here"] (spN K 2 f__law_names) := by
  exact fn_denN (N := N__law_names) F sc__law_names (by decide) fun cdv A outer s H E hr => by
    have hu : (A.deeper (envOfC "_law_names" (defScope s__law_names) s.heap.objs.size f cdv)).units + 65 < cLine := by have := hr.un; omega
    have hv : (A.deeper (envOfC "_law_names" (defScope s__law_names) s.heap.objs.size f cdv)).units + 1 < cLine := by omega
    exact ek_out (K := K) ((PL.bC (zAsg (cal1 C_law_at hr (by decide) (yC (vP 0) (yC cI yN))) (gN (S := [2]) 2 sc__law_names.nd))
    (PL.bC (zAsg (bAdd (EP.o cI) (EP.o (bMod (vO 2) (EP.o cI)))) (gN (S := [3]) 3 sc__law_names.nd))
    (PL.bC (zIf (tcmp (kEq hu) (EP.o (bMod (EP.o (bDiv (vO 2) (EP.o cI))) (EP.o cI))) (EP.o cI)) (PL.b1 (zAsg cI (gN (S := [3]) 3 sc__law_names.nd))) PL.b0)
    (PL.bC (zIf (tcmp (kEq hu) (EP.o (bMod (EP.o (bDiv (vO 2) (EP.o cI))) (EP.o cI))) (EP.o cI)) (PL.b1 (zRetN (slL (EN.o (lcp [("_law_plot", 6), ("_law_outer", 7)] s sc__law_names.nd (jL (vO 1)) (blkOk_by (own := [("_law_plot", 6), ("_law_outer", 7)]) (N := N__law_names) (sc := defScope s__law_names) (by decide +kernel)) (fun _ _ _ _ _ => (gT (gsC (gN 6 sc__law_names.nd) (gsC (gN 7 sc__law_names.nd) gs0)))) (fun _ _ _ _ _ => ts0) (fun _ _ _ _ _ => (vP 6)))) qN (qS (vO 3))))) PL.b0)
    (PL.bC (zAsg cS (gN (S := [4]) 4 sc__law_names.nd))
    (PL.b1 (zRetN (lcp [("_law_k", 5)] s sc__law_names.nd (EI.j (iRa T.range (xC (vO 3) xN))) (blkOk_by (own := [("_law_k", 5)]) (N := N__law_names) (sc := defScope s__law_names) (by decide +kernel)) (fun _ _ _ _ _ => (gN 5 sc__law_names.nd)) (fun _ _ _ _ _ => ts0) (fun _ _ _ _ _ => (cal1 C_law_called hr (by decide) (yC (bDiv (vO 2) (EP.o cI)) (yC (vP 5) (yC (bAdd (EP.o (ixx (EP.o cS) (EP.o (bDiv (vO 5) (EP.o cI))))) (EP.o (ixx (vO 4) (EP.o (bMod (vO 5) (EP.o cI)))))) yN))))))))))))))

/-! _law_row: _law_cell 0, _law_plots_here 1, _law_names_here 2, _law_size 3, _law_more 4, _law_name 5, _law_other 6, _law_plot 7, _law_number 8, _law_place 9, _law_kind_here 10 -/
abbrev s__law_row : Stmt := topS 9
abbrev N__law_row : List Str := ["_law_cell", "_law_plots_here", "_law_names_here", "_law_size", "_law_more", "_law_name", "_law_other", "_law_plot", "_law_number", "_law_place", "_law_kind_here"]
theorem sc__law_row : FnScope N__law_row ["_law_cell", "_law_plots_here", "_law_names_here", "_law_size"] (defScope s__law_row) := ⟨rfl, rfl, rfl, by decide +kernel, rfl, by decide +kernel, by decide +kernel⟩
def F__law_row : PL.Env → Option Out := (sSeq (sAsg (e2 (gIC cMod (· % ·)) (e2 gAdd (e2 (gIC cMul (· * ·)) (e2 (gIC cDiv (· / ·)) (eVarO 0) (eC (.int 10))) (eC (.int 48271))) (eC (.int 11))) (eC (.int 1000003))) (tgN 4))
    (sSeq (sAsg (e2 gIx (eVarO 2) (e2 (gIC cMod (· % ·)) (eVarO 4) (eA gLen (aCons (eVarO 2) aNil)))) (tgN 5))
    (sSeq (sAsg (e2 gIx (eVarO 2) (e2 (gIC cMod (· % ·)) (e2 (gIC cDiv (· / ·)) (eVarO 4) (eC (.int 7))) (eA gLen (aCons (eVarO 2) aNil)))) (tgN 6))
    (sSeq (sAsg (e2 gIx (e2 gIx (eVarO 1) (e2 (gIC cMod (· % ·)) (e2 (gIC cDiv (· / ·)) (eVarO 4) (eC (.int 61))) (eA gLen (aCons (eVarO 1) aNil)))) (eC (.int 0))) (tgN 7))
    (sSeq (sAsg (e2 (gI (· - ·)) (e2 (gIC cMod (· % ·)) (e2 (gIC cDiv (· / ·)) (eVarO 0) (eC (.int 10))) (eC (.int 19))) (eC (.int 9))) (tgN 8))
    (sSeq (sIf (tE (e2 gEq (e2 (gIC cMod (· % ·)) (eVarO 4) (eC (.int 4))) (eC (.int 1)))) (sAsg (e2 (gI (· - ·)) (e2 (gIC cMod (· % ·)) (e2 (gIC cDiv (· / ·)) (eVarO 0) (eC (.int 10))) (eC (.int 2000000000000000001))) (eC (.int 1000000000000000000))) (tgN 8)) sNext)
    (sSeq (sAsg (e2 (gIC cMod (· % ·)) (e2 (gIC cDiv (· / ·)) (eVarO 4) (eC (.int 1013))) (e2 gAdd (eVarO 3) (eC (.int 1)))) (tgN 9))
    (sSeq (sAsg (e2 (gIC cMod (· % ·)) (eVarO 0) (eC (.int 10))) (tgN 10))
    (sSeq (sIf (tE (e2 (gB fun i j => decide (i < j)) (eVarO 10) (eC (.int 2)))) (sRet (e2 gIx (eL (nLst (aCons (eTup (aCons (eC (.str "open")) (aCons (eVar 7) aNil))) (aCons (eTup (aCons (eC (.str "lay")) (aCons (eVar 5) (aCons (eVar 7) (aCons (eVar 8) aNil))))) aNil)))) (eVarO 10))) sNext)
    (sSeq (sIf (tE (e2 (gB fun i j => decide (i < j)) (eVarO 10) (eC (.int 6)))) (sRet (e2 gIx (eL (nLst (aCons (eTup (aCons (eC (.str "copy")) (aCons (eVar 5) (aCons (eVar 6) (aCons (eVar 7) aNil))))) (aCons (eTup (aCons (eC (.str "same")) (aCons (eVar 5) (aCons (eVar 6) aNil)))) (aCons (eTup (aCons (eC (.str "add")) (aCons (eVar 5) (aCons (eVar 6) aNil)))) (aCons (eTup (aCons (eC (.str "tell")) (aCons (eVar 5) aNil))) aNil)))))) (e2 (gI (· - ·)) (eVarO 10) (eC (.int 2))))) sNext)
    (sRet (e2 gIx (eL (nLst (aCons (eTup (aCons (eC (.str "give")) (aCons (eVar 7) aNil))) (aCons (eTup (aCons (eC (.str "fork")) (aCons (eVar 9) aNil))) (aCons (eTup (aCons (eC (.str "go")) (aCons (eVar 9) aNil))) (aCons (eTup (aCons (eC (.str "end")) aNil)) aNil)))))) (e2 (gI (· - ·)) (eVarO 10) (eC (.int 6)))))))))))))))
def f__law_row : List PyData → Option PyData := fnD 11 F__law_row
theorem ok__law_row {f : Addr} {fd : FuncData} (F : Fun K "_law_row" "_law_row" s__law_row f fd) (T : Bt mg) : FnOk P w K mg base CX0 1 f fd ["_law_cell", "_law_plots_here", "_law_names_here", "_law_size"] (spD K 4 f__law_row) := by
  exact fn_den (N := N__law_row) F sc__law_row (by decide) fun cdv A outer s H E hr => by
    have hu : (A.deeper (envOfC "_law_row" (defScope s__law_row) s.heap.objs.size f cdv)).units + 65 < cLine := by have := hr.un; omega
    have hv : (A.deeper (envOfC "_law_row" (defScope s__law_row) s.heap.objs.size f cdv)).units + 1 < cLine := by omega
    exact ek_out (K := K) ((PL.bC (zAsg (bMod (EP.o (bAdd (EP.o (bMul (EP.o (bDiv (vO 0) (EP.o cI))) (EP.o cI))) (EP.o cI))) (EP.o cI)) (gN (S := [4]) 4 sc__law_row.nd))
    (PL.bC (zAsg (ixx (vO 2) (EP.o (bMod (vO 4) (EP.o (fLen T.len (ha := (xC (vO 2) xN))))))) (gN (S := [5]) 5 sc__law_row.nd))
    (PL.bC (zAsg (ixx (vO 2) (EP.o (bMod (EP.o (bDiv (vO 4) (EP.o cI))) (EP.o (fLen T.len (ha := (xC (vO 2) xN))))))) (gN (S := [6]) 6 sc__law_row.nd))
    (PL.bC (zAsg (ixx (EP.o (ixx (vO 1) (EP.o (bMod (EP.o (bDiv (vO 4) (EP.o cI))) (EP.o (fLen T.len (ha := (xC (vO 1) xN)))))))) (EP.o cI)) (gN (S := [7]) 7 sc__law_row.nd))
    (PL.bC (zAsg (bSub (EP.o (bMod (EP.o (bDiv (vO 0) (EP.o cI))) (EP.o cI))) (EP.o cI)) (gN (S := [8]) 8 sc__law_row.nd))
    (PL.bC (zIf (tcmp (kEq hu) (EP.o (bMod (vO 4) (EP.o cI))) (EP.o cI)) (PL.b1 (zAsg (bSub (EP.o (bMod (EP.o (bDiv (vO 0) (EP.o cI))) (EP.o cI))) (EP.o cI)) (gN (S := [8]) 8 sc__law_row.nd))) PL.b0)
    (PL.bC (zAsg (bMod (EP.o (bDiv (vO 4) (EP.o cI))) (EP.o (bAdd (vO 3) (EP.o cI)))) (gN (S := [9]) 9 sc__law_row.nd))
    (PL.bC (zAsg (bMod (vO 0) (EP.o cI)) (gN (S := [10]) 10 sc__law_row.nd))
    (PL.bC (zIf (tcmp kLt (vO 10) (EP.o cI)) (PL.b1 (zRet (ixx (EN.o (dLst (yC (dTup (yC cS (yC (vP 7) yN))) (yC (dTup (yC cS (yC (vP 5) (yC (vP 7) (yC (vP 8) yN))))) yN)))) (vO 10)))) PL.b0)
    (PL.bC (zIf (tcmp kLt (vO 10) (EP.o cI)) (PL.b1 (zRet (ixx (EN.o (dLst (yC (dTup (yC cS (yC (vP 5) (yC (vP 6) (yC (vP 7) yN))))) (yC (dTup (yC cS (yC (vP 5) (yC (vP 6) yN)))) (yC (dTup (yC cS (yC (vP 5) (yC (vP 6) yN)))) (yC (dTup (yC cS (yC (vP 5) yN))) yN)))))) (EP.o (bSub (vO 10) (EP.o cI)))))) PL.b0)
    (PL.b1 (zRet (ixx (EN.o (dLst (yC (dTup (yC cS (yC (vP 7) yN))) (yC (dTup (yC cS (yC (vP 9) yN))) (yC (dTup (yC cS (yC (vP 9) yN))) (yC (dTup (yC cS yN)) yN)))))) (EP.o (bSub (vO 10) (EP.o cI)))))))))))))))))

/-! _law_kind: _law_fact 0 -/
abbrev s__law_kind : Stmt := topS 10
abbrev N__law_kind : List Str := ["_law_fact"]
theorem sc__law_kind : FnScope N__law_kind ["_law_fact"] (defScope s__law_kind) := ⟨rfl, rfl, rfl, by decide +kernel, rfl, by decide +kernel, by decide +kernel⟩
def F__law_kind : PL.Env → Option Out := (sSeq (sIf (tO (tN (tE (e1 (gIsi "tuple") (eVarO 0)))) (tE (e2 gNe (eA gLen (aCons (eVarO 0) aNil)) (eC (.int 3))))) (sRet (eC (.bool false))) sNext)
    (sRet (e2 gEq (e1 (gIsi "bool") (e2 gIx (eVarO 0) (eC (.int 2)))) (e2 gEq (e2 gIx (eVarO 0) (eC (.int 0))) (eC (.str "plot"))))))
def f__law_kind : List PyData → Option PyData := fnD 1 F__law_kind
theorem ok__law_kind {f : Addr} {fd : FuncData} (F : Fun K "_law_kind" "_law_kind" s__law_kind f fd) (T : Bt mg) : FnOk P w K mg base CX0 1 f fd ["_law_fact"] (spD K 1 f__law_kind) := by
  exact fn_den (N := N__law_kind) F sc__law_kind (by decide) fun cdv A outer s H E hr => by
    have hu : (A.deeper (envOfC "_law_kind" (defScope s__law_kind) s.heap.objs.size f cdv)).units + 65 < cLine := by have := hr.un; omega
    have hv : (A.deeper (envOfC "_law_kind" (defScope s__law_kind) s.heap.objs.size f cdv)).units + 1 < cLine := by omega
    exact ek_out (K := K) ((PL.bC (zIf (EW.tt (wO (tNot_ (tVal (EP.o (fIsi "tuple" T.isinstance T.tuple (ha := (vO 0)))))) (wO1 (tcmp (kNe hu) (EP.o (fLen T.len (ha := (xC (vO 0) xN)))) (EP.o cI))))) (PL.b1 (zRet cB)) PL.b0)
    (PL.b1 (zRet (cmp (kEq hu) (EP.o (fIsi "bool" T.isinstance T.bool (ha := (EP.o (ixx (vO 0) (EP.o cI)))))) (EP.o (cmp (kEq hu) (EP.o (ixx (vO 0) (EP.o cI))) (EP.o cS))))))))

/-! law: _law_script 0, _law_plots_here 1, _law_names_here 2, _law_cells 3, _law_rows 4, _law_due 5, _law_row_here 6, _law_handed 7, _law_found 8, _law_met 9, _law_name 10, _law_cell 11, _law_k 12, _law_plot 13, _law_outer 14, _law_fact 15 -/
abbrev s_law : Stmt := topS 11
abbrev N_law : List Str := ["_law_script", "_law_plots_here", "_law_names_here", "_law_cells", "_law_rows", "_law_due", "_law_row_here", "_law_handed", "_law_found", "_law_met", "_law_name", "_law_cell", "_law_k", "_law_plot", "_law_outer", "_law_fact"]
theorem sc_law : FnScope N_law ["_law_script"] (defScope s_law) := ⟨rfl, rfl, rfl, by decide +kernel, rfl, by decide +kernel, by decide +kernel⟩
def F_law : PL.Env → Option Out := (sSeq (sAsg (eL (fun env => ((aCons (eVar 0) aNil) env).bind fun ds => if ds.length = 1 then f__law_plots ds else none)) (tgN 1))
    (sSeq (sAsg (eL (fun env => ((aCons (eVar 0) (aCons (eVar 1) aNil)) env).bind fun ds => if ds.length = 2 then f__law_names ds else none)) (tgN 2))
    (sSeq (sAsg (eL (nSl (eVarO 0) (oSome (eC (.int 6))) (oSome (eC (.int 20))))) (tgN 3))
    (sSeq (sIf (tE (e2 gEq (e2 (gIC cMod (· % ·)) (eA (fun ds => if ds.length = 2 then f__law_at ds else none) (aCons (eVar 0) (aCons (eC (.int 5)) aNil))) (eC (.int 8))) (eC (.int 1)))) (sAsg (eL (nLc (iR1 (aCons (e2 gAdd (eC (.int 40)) (e2 (gIC cMod (· % ·)) (e2 (gIC cDiv (· / ·)) (eA (fun ds => if ds.length = 2 then f__law_at ds else none) (aCons (eVar 0) (aCons (eC (.int 5)) aNil))) (eC (.int 8))) (eC (.int 21)))) aNil)) (tgN 12) (fun _ => some true) (e2 gAdd (e2 (gIC cDiv (· / ·)) (eA (fun ds => if ds.length = 2 then f__law_at ds else none) (aCons (eVar 0) (aCons (e2 gAdd (eC (.int 6)) (e2 (gIC cMod (· % ·)) (eVarO 12) (eC (.int 3)))) aNil))) (eC (.int 7))) (e2 (gIC cMul (· * ·)) (eC (.int 7919)) (eVarO 12))) [12])) (tgN 3)) sNext)
    (sSeq (sOwn (nLc (iLS (eVarO 3)) (tgN 11) (fun _ => some true) (eA (fun ds => if ds.length = 4 then f__law_row ds else none) (aCons (eVar 11) (aCons (eVar 1) (aCons (eVar 2) (aCons (eA gLen (aCons (eVarO 3) aNil)) aNil))))) [11]) 4)
    (sFree 4 (sSeq (sIf (tE (e2 gEq (e2 (gIC cMod (· % ·)) (e2 (gIC cDiv (· / ·)) (eA (fun ds => if ds.length = 2 then f__law_at ds else none) (aCons (eVar 0) (aCons (eC (.int 0)) aNil))) (eC (.int 4))) (eC (.int 16))) (eC (.int 9)))) (sSeq (sAsg (eL (nLst aNil)) (tgN 1))
    (sSeq (sOwn (nLc (iLS (eVarO 4)) (tgN 6) (tE (e2 (gInT false) (e2 gIx (eVarO 6) (eC (.int 0))) (eTup (aCons (eC (.str "same")) (aCons (eC (.str "add")) (aCons (eC (.str "tell")) (aCons (eC (.str "fork")) (aCons (eC (.str "go")) (aCons (eC (.str "end")) aNil))))))))) (eVar 6) [6]) 4)
    (sFree 4 sNext))) sNext)
    (sSeq (sOwn (nLc (iLS (eVarO 1)) (tgT 2 (tgCons (tgN 13) (tgCons (tgN 14) tgNil))) (fun _ => some true) (eTup (aCons (eC (.str "plot")) (aCons (eVar 13) (aCons (eC (.bool false)) aNil)))) [13, 14]) 5)
    (sSeq (sFor (iLS (eVar 4)) (tgN 6) (sSeq (sAsg (eL (nLst aNil)) (tgN 9))
    (sSeq (sIf (tE (e2 (gInT false) (e2 gIx (eVarO 6) (eC (.int 0))) (eTup (aCons (eC (.str "lay")) (aCons (eC (.str "tell")) aNil))))) (sAsg (eL (nLst (aCons (e2 gIx (eVarO 6) (eC (.int 1))) aNil))) (tgN 9)) (sIf (tE (e2 (gInT false) (e2 gIx (eVarO 6) (eC (.int 0))) (eTup (aCons (eC (.str "copy")) (aCons (eC (.str "same")) (aCons (eC (.str "add")) aNil)))))) (sAsg (eL (nLst (aCons (e2 gIx (eVarO 6) (eC (.int 1))) (aCons (e2 gIx (eVarO 6) (eC (.int 2))) aNil)))) (tgN 9)) sNext))
    (sFor (iLS (eVar 9)) (tgN 10) (sIf (tE (e2 (gInL true) (eTup (aCons (eC (.str "name")) (aCons (eVar 10) (aCons (eC .none) aNil)))) (eVarO 5))) (sApp 5 (eTup (aCons (eC (.str "name")) (aCons (eVar 10) (aCons (eC .none) aNil))))) sNext)))))
    (sSeq (sAsg (eL (nLst (aCons (eL (nList (aCons (eVarO 1) aNil))) (aCons (eL (nList (aCons (eVarO 4) aNil))) aNil)))) (tgN 7))
    (sSeq (sAsg (eL (fun env => ((aCons (e2 gIx (eVarO 7) (eC (.int 0))) (aCons (e2 gIx (eVarO 7) (eC (.int 1))) aNil)) env).bind fun ds => if ds.length = 2 then f_at_first ds else none)) (tgN 8))
    (sSeq (sIf (tO (tN (tE (e1 (gIsi "list") (eVarO 8)))) (tE (e2 gNe (eL (nLc (iLS (eVarO 8)) (tgN 15) (tN (tE (eA (fun ds => if ds.length = 1 then f__law_kind ds else none) (aCons (eVar 15) aNil)))) (eVar 15) [15])) (eL (nLst aNil))))) (sRet (eC (.bool false))) sNext)
    (sRet (eAndB (e2 gEq (eVarO 8) (eVarO 5)) (e2 gEq (eVarO 7) (eL (nLst (aCons (eVar 1) (aCons (eVar 4) aNil)))))))))))))))))))
def f_law : List PyData → Option PyData := fnD 16 F_law
theorem ok_law {f : Addr} {fd : FuncData} (F : Fun K "law" "law" s_law f fd) (T : Bt mg) (C_law_plots : CalN P w K mg base 2 "_law_plots" 1 ["_law_script"] f__law_plots) (C_law_names : CalN P w K mg base 2 "_law_names" 2 ["_law_script", "_law_plots_here"] f__law_names) (C_law_at : Cal P w K mg base 1 "_law_at" 2 ["_law_script", "_law_k"] f__law_at) (C_law_row : Cal P w K mg base 1 "_law_row" 4 ["_law_cell", "_law_plots_here", "_law_names_here", "_law_size"] f__law_row) (Cat_first : CalN P w K mg base 2 "at_first" 2 ["plots", "rows"] f_at_first) (C_law_kind : Cal P w K mg base 1 "_law_kind" 1 ["_law_fact"] f__law_kind) : FnOk P w K mg base CX0 3 f fd ["_law_script"] (spD K 1 f_law) := by
  exact fn_den (N := N_law) F sc_law (by decide) fun cdv A outer s H E hr => by
    have hu : (A.deeper (envOfC "law" (defScope s_law) s.heap.objs.size f cdv)).units + 65 < cLine := by have := hr.un; omega
    have hv : (A.deeper (envOfC "law" (defScope s_law) s.heap.objs.size f cdv)).units + 1 < cLine := by omega
    exact ek_out (K := K) ((PL.bC (zAsg (EN.p (cal1N C_law_plots hr (by decide) (yC (vP 0) yN))) (gN (S := [1]) 1 sc_law.nd))
    (PL.bC (zAsg (EN.p (cal1N C_law_names hr (by decide) (yC (vP 0) (yC (vP 1) yN)))) (gN (S := [2]) 2 sc_law.nd))
    (PL.bC (zAsg (EN.p (slL (vO 0) (qS (EP.o cI)) (qS (EP.o cI)))) (gN (S := [3]) 3 sc_law.nd))
    (PL.bC (zIf (tcmp (kEq hu) (EP.o (bMod (EP.o (cal1 C_law_at hr (by decide) (yC (vP 0) (yC cI yN)))) (EP.o cI))) (EP.o cI)) (PL.b1 (zAsg (EN.p (lcp [("_law_k", 12)] s sc_law.nd (EI.j (iRa T.range (xC (EP.o (bAdd (EP.o cI) (EP.o (bMod (EP.o (bDiv (EP.o (cal1 C_law_at hr (by decide) (yC (vP 0) (yC cI yN)))) (EP.o cI))) (EP.o cI))))) xN))) (blkOk_by (own := [("_law_k", 12)]) (N := N_law) (sc := defScope s_law) (by decide +kernel)) (fun _ _ _ _ _ => (gN 12 sc_law.nd)) (fun _ _ _ _ _ => ts0) (fun _ _ _ _ _ => (bAdd (EP.o (bDiv (EP.o (cal1 C_law_at hr (by decide) (yC (vP 0) (yC (bAdd (EP.o cI) (EP.o (bMod (vO 12) (EP.o cI)))) yN)))) (EP.o cI))) (EP.o (bMul (EP.o cI) (vO 12))))))) (gN (S := [3]) 3 sc_law.nd))) PL.b0)
    (PL.bC (zLc 4 [("_law_cell", 11)] s sc_law.nd (jL (vO 3)) (blkOk_by (own := [("_law_cell", 11)]) (N := N_law) (sc := defScope s_law) (by decide +kernel)) (fun _ _ _ _ _ => (gN 11 sc_law.nd)) (fun _ _ _ _ _ => ts0) (fun _ _ _ _ _ => (cal1 C_law_row hr (by decide) (yC (vP 11) (yC (vP 1) (yC (vP 2) (yC (fLen T.len (ha := (xC (vO 3) xN))) yN)))))) (sw_true rfl rfl rfl (by decide +kernel)))
    (EK.free 4 (PL.bC (zIf (tcmp (kEq hu) (EP.o (bMod (EP.o (bDiv (EP.o (cal1 C_law_at hr (by decide) (yC (vP 0) (yC cI yN)))) (EP.o cI))) (EP.o cI))) (EP.o cI)) (PL.bC (zAsg (EN.p (dLst yN)) (gN (S := [1]) 1 sc_law.nd))
    (PL.bC (zLc 4 [("_law_row_here", 6)] s sc_law.nd (jL (vO 4)) (blkOk_by (own := [("_law_row_here", 6)]) (N := N_law) (sc := defScope s_law) (by decide +kernel)) (fun _ _ _ _ _ => (gN 6 sc_law.nd)) (fun _ _ _ _ _ => (ts1 (tcmp kInT (EP.o (ixx (vO 6) (EP.o cI))) (EP.o (dTup (yC cS (yC cS (yC cS (yC cS (yC cS (yC cS yN))))))))))) (fun _ _ _ _ _ => (vP 6)) (sw_true rfl rfl rfl (by decide +kernel)))
    (EK.free 4 PL.b0))) PL.b0)
    (PL.bC (zLc 5 [("_law_plot", 13), ("_law_outer", 14)] s sc_law.nd (jL (vO 1)) (blkOk_by (own := [("_law_plot", 13), ("_law_outer", 14)]) (N := N_law) (sc := defScope s_law) (by decide +kernel)) (fun _ _ _ _ _ => (gT (gsC (gN 13 sc_law.nd) (gsC (gN 14 sc_law.nd) gs0)))) (fun _ _ _ _ _ => ts0) (fun _ _ _ _ _ => (dTup (yC cS (yC (vP 13) (yC cB yN))))) (sw_true rfl rfl rfl (by decide +kernel)))
    (PL.bC (zFor (S := [6]) PassesOwn.never (iL (vP 4)) (gN 6 sc_law.nd) (PL.bC (zAsg (EN.p (dLst yN)) (gN (S := [9]) 9 sc_law.nd))
    (PL.bC (zIf (tcmp kInT (EP.o (ixx (vO 6) (EP.o cI))) (EP.o (dTup (yC cS (yC cS yN))))) (PL.b1 (zAsg (EN.p (dLst (yC (ixx (vO 6) (EP.o cI)) yN))) (gN (S := [9]) 9 sc_law.nd))) (PL.b1 (zIf (tcmp kInT (EP.o (ixx (vO 6) (EP.o cI))) (EP.o (dTup (yC cS (yC cS (yC cS yN)))))) (PL.b1 (zAsg (EN.p (dLst (yC (ixx (vO 6) (EP.o cI)) (yC (ixx (vO 6) (EP.o cI)) yN)))) (gN (S := [9]) 9 sc_law.nd))) PL.b0)))
    (PL.b1 (zFor (S := [10]) PassesOwn.never (iL (vP 9)) (gN 10 sc_law.nd) (PL.b1 (zIf (tcmp (kNiL hu) (EP.o (dTup (yC cS (yC (vP 10) (yC cN yN))))) (vO 5)) (PL.b1 (zApp 5 (vO 5) (dTup (yC cS (yC (vP 10) (yC cN yN)))))) PL.b0)))))))
    (PL.bC (zAsg (EN.p (dLst (yC (EN.p (fList T.list (ha := (xC (vO 1) xN)))) (yC (EN.p (fList T.list (ha := (xC (vO 4) xN)))) yN)))) (gN (S := [7]) 7 sc_law.nd))
    (PL.bC (zAsg (EN.p (cal1N Cat_first hr (by decide) (yC (ixx (vO 7) (EP.o cI)) (yC (ixx (vO 7) (EP.o cI)) yN)))) (gN (S := [8]) 8 sc_law.nd))
    (PL.bC (zIf (EW.tt (wO (tNot_ (tVal (EP.o (fIsi "list" T.isinstance T.list (ha := (vO 8)))))) (wO1 (tcmp (kNe hu) (EN.o (lcp [("_law_fact", 15)] s sc_law.nd (jL (vO 8)) (blkOk_by (own := [("_law_fact", 15)]) (N := N_law) (sc := defScope s_law) (by decide +kernel)) (fun _ _ _ _ _ => (gN 15 sc_law.nd)) (fun _ _ _ _ _ => (ts1 (tNot_ (tVal (EP.o (cal1 C_law_kind hr (by decide) (yC (vP 15) yN))))))) (fun _ _ _ _ _ => (vP 15)))) (EN.o (dLst yN)))))) (PL.b1 (zRet cB)) PL.b0)
    (PL.b1 (zRet (vAnd (EP.o (cmp (kEq hu) (vO 8) (vO 5))) (vOne (cmp (kEq hu) (vO 7) (EN.o (dLst (yC (vP 1) (yC (vP 4) yN))))))))))))))))))))))

end
end K06
namespace K06
open PySem L2 PySem.Spec PyProof.Rows PL PR
theorem m_at (ns : List Int) (k : Nat) : f__law_at [scrD (ns.map PyData.int), .int k] = some (.int (ns.getD k 0)) := by
  unfold f__law_at fnD F__law_at
  simp [sSeq, sIf, tE, e2, eVarO, eVar, fEnv, gB, eA, aCons, aNil, gLen, dLen, scrD, asB, sRet, sNext, bindO, outD, gIx, eC, atI, ixN]
  by_cases h : k < ns.length
  · simp [h]
  · simp [h, List.getElem?_eq_none (Nat.le_of_not_lt h)]
theorem m_called (c : Int) (k : Nat) (sg : Str) (hs : (cs sg).length ≤ 2) : f__law_called [.int c, .int k, .str sg] = some (.str ⟨(callL c k (cs sg)).toArray⟩) := by
  have hl : sg.length ≤ 2 := by rw [← cs_len]; exact hs
  unfold f__law_called fnD F__law_called
  have h0 : fEnv 9 [PyData.int c, .int k, .str sg] = [.sh (.int c), .sh (.int k), .sh (.str sg), .un, .un, .un, .un, .un, .un] := rfl
  rw [h0, seq_asg rfl, seq_asg (add_ev rfl (mul_ev (mul_ev rfl rfl (cmul_l (by omega))) (mod_ev rfl rfl (by omega)) (cmul_r (by omega)))),
    seq_asg (mod_ev (div_ev rfl rfl (by omega)) (sub_ev rfl (lent_ev (z := sg) rfl (by omega))) (by omega))]
  generalize ht : c + 31 * (k : Int) * (c % 2) = t
  generalize hn : t / 26 % (9 - (sg.length : Int)) = n
  have hn0 : 0 ≤ n ∧ n ≤ 8 := by
    have := Int.emod_nonneg (t / 26) (show (9 - (sg.length : Int)) ≠ 0 by omega)
    have := Int.emod_lt_of_pos (t / 26) (show 0 < (9 - (sg.length : Int)) by omega)
    omega
  obtain ⟨N, rfl⟩ := Int.eq_ofNat_of_zero_le hn0.1
  have hN : N ≤ 8 := by omega
  have hcomp : nLc (iR1 (aCons (eVarO 5) aNil)) (tgN 8) (fun _ => some true) (e2 gIx (eVarO 3) (e2 (gIC cMod (· % ·)) (e2 gAdd (eVarO 4) (e2 (gIC cMul (· * ·)) (e2 (gIC cMul (· * ·)) (eC (.int 5)) (eVarO 8)) (e2 gAdd (eC (.int 1)) (e2 (gIC cMod (· % ·)) (eVarO 4) (eC (.int 3)))))) (eC (.int 26)))) [8]
      [.sh (.int c), .sh (.int k), .sh (.str sg), .sh (.str "abcdefghijklmnopqrstuvwxyz"), .sh (.int t), .sh (.int (N : Int)), .un, .un, .un] = some ((callT t N).map fun c => .str ⟨#[c]⟩) := by
    unfold nLc
    have h1 : iR1 (aCons (eVarO 5) aNil) [.sh (.int c), .sh (.int k), .sh (.str sg), .sh (.str "abcdefghijklmnopqrstuvwxyz"), .sh (.int t), .sh (.int (N : Int)), .un, .un, .un] = some (rgD 0 N) := by
      show (if -100000 ≤ (N : Int) ∧ (N : Int) ≤ 100000 then some (rgD 0 (N : Int).toNat) else none) = _
      rw [if_pos (by omega), Int.toNat_natCast]
    rw [h1, Option.bind_some, if_pos (by unfold rgD; rw [List.length_map, List.length_range]; omega)]
    rw [lc_all (fun x => [.sh (.int c), .sh (.int k), .sh (.str sg), .sh (.str "abcdefghijklmnopqrstuvwxyz"), .sh (.int t), .sh (.int (N : Int)), .un, .un, .sh x]) (fun x => match x with | .int j => .str ⟨#[97 + ((t + 5 * j * (1 + t % 3)) % 26).toNat]⟩ | _ => .none) _ (fun x _ => rfl)]
    · unfold rgD callT
      rw [List.map_map, List.map_map]
      congr 1
      apply List.map_congr_left
      intro j _
      show PyData.str ⟨#[97 + ((t + 5 * (0 + (j : Int)) * (1 + t % 3)) % 26).toNat]⟩ = PyData.str ⟨#[97 + ((t + 5 * (j : Int) * (1 + t % 3)) % 26).toNat]⟩
      rw [Int.zero_add]
    · intro x hx
      unfold rgD at hx
      obtain ⟨j, _, rfl⟩ := List.mem_map.mp hx
      have hm := mod_ev (env := [.sh (.int c), .sh (.int k), .sh (.str sg), .sh (.str "abcdefghijklmnopqrstuvwxyz"), .sh (.int t), .sh (.int (N : Int)), .un, .un, .sh (.int (0 + (j : Int)))]) (a := e2 gAdd (eVarO 4) (e2 (gIC cMul (· * ·)) (e2 (gIC cMul (· * ·)) (eC (.int 5)) (eVarO 8)) (e2 gAdd (eC (.int 1)) (e2 (gIC cMod (· % ·)) (eVarO 4) (eC (.int 3)))))) (b := eC (.int 26)) (add_ev rfl (mul_ev (mul_ev rfl rfl (cmul_l (by omega))) (add_ev rfl (mod_ev rfl rfl (by omega))) (cmul_r (by omega)))) rfl (by omega)
      show (eVarO 3 _).bind (fun x => (e2 (gIC cMod (· % ·)) _ _ _).bind fun y => gIx x y) = _
      rw [hm]
      exact letter_at _ (Int.emod_nonneg _ (by omega)) (Int.emod_lt_of_pos _ (by omega))
  obtain ⟨z, hz, hcz⟩ := join_ev hcomp (by unfold callT; rw [List.length_map, List.length_range]; omega)
  have hzl : z.length = N := by
    rw [← cs_len, hcz]
    unfold callT
    rw [List.length_map, List.length_range]
  rw [show ((([Sl.sh (PyData.int c), .sh (.int k), .sh (.str sg), .un, .un, .un, .un, .un, .un].set 3 (.sh (.str "abcdefghijklmnopqrstuvwxyz"))).set 4 (.sh (.int t))).set 5 (.sh (.int (N : Int)))) = [.sh (.int c), .sh (.int k), .sh (.str sg), .sh (.str "abcdefghijklmnopqrstuvwxyz"), .sh (.int t), .sh (.int (N : Int)), .un, .un, .un] from rfl]
  rw [seq_asg hz, seq_asg rfl, if_seq (eqi_ev (mod_ev rfl rfl (by omega)) rfl)]
  have fin : ∀ p : Nat, outD (sRet (e2 gAdd (e2 gAdd (eSlS (eVarO 6) oNone (oSome (eVarO 7))) (eVarO 2)) (eSlS (eVarO 6) (oSome (eVarO 7)) oNone)) [.sh (.int c), .sh (.int k), .sh (.str sg), .sh (.str "abcdefghijklmnopqrstuvwxyz"), .sh (.int t), .sh (.int (N : Int)), .sh (.str z), .sh (.int (p : Int)), .un]) = some (.str ⟨((callT t N).take p ++ cs sg ++ (callT t N).drop p).toArray⟩) := fun p => by
    have e1 := cut_to_ev (env := [.sh (.int c), .sh (.int k), .sh (.str sg), .sh (.str "abcdefghijklmnopqrstuvwxyz"), .sh (.int t), .sh (.int (N : Int)), .sh (.str z), .sh (.int (p : Int)), .un]) (f := eVarO 6) (g := eVarO 7) (z := z) (k := p) rfl rfl (by omega)
    have e2' := cut_from_ev (env := [.sh (.int c), .sh (.int k), .sh (.str sg), .sh (.str "abcdefghijklmnopqrstuvwxyz"), .sh (.int t), .sh (.int (N : Int)), .sh (.str z), .sh (.int (p : Int)), .un]) (f := eVarO 6) (g := eVarO 7) (z := z) (k := p) rfl rfl (by omega)
    have l1 : (cutS z none (some (p : Int))).length ≤ 8 := by rw [← cs_len, cs_cut_to, List.length_take, cs_len]; omega
    have l2 : (cutS z (some (p : Int)) none).length ≤ 8 := by rw [← cs_len, cs_cut_from, List.length_drop, cs_len]; omega
    have e3 := cat_ev (a := eSlS (eVarO 6) oNone (oSome (eVarO 7))) (b := eVarO 2) e1 (show eVarO 2 _ = some (.str sg) from rfl) (by omega)
    have l3 : (cutS z none (some (p : Int)) ++ sg).length ≤ 10 := by rw [← cs_len, cs_app, List.length_append, cs_len, cs_len]; omega
    have e4 := cat_ev e3 e2' (by omega)
    unfold sRet
    rw [e4]
    show some (PyData.str _) = some (PyData.str _)
    congr 2
    apply cs_inj
    rw [cs_app, cs_app, cs_cut_to, cs_cut_from, hcz]
    rfl
  unfold callL
  simp only [ht, cs_len]
  rw [hn, Int.toNat_natCast]
  by_cases he : c % 2 = 0
  · rw [decide_eq_true he, if_pos rfl, if_pos he]
    rw [seq_asg (mod_ev (div_ev rfl rfl (by omega)) (add_ev rfl rfl) (by omega))]
    have hp := Int.emod_nonneg (c / 4) (show ((N : Int) + 1) ≠ 0 by omega)
    obtain ⟨p, hp⟩ := Int.eq_ofNat_of_zero_le hp
    rw [hp, Int.toNat_natCast]
    exact fin p
  · rw [decide_eq_false he, if_neg Bool.false_ne_true, if_neg he, next_seq]
    exact fin N
theorem at_ev {env : PL.Env} {ns : List Int} {k : Nat} (h : env[0]? = some (.sh (scrD (ns.map PyData.int)))) : eA (fun ds => if ds.length = 2 then f__law_at ds else none) (aCons (eVar 0) (aCons (eC (.int (k : Int))) aNil)) env = some (.int (ns.getD k 0)) := by
  refine call2_ev (x := scrD (ns.map PyData.int)) (y := .int (k : Int)) ?_ rfl (m_at ns k)
  unfold eVar
  rw [h]
theorem at0_ev {env : PL.Env} {ns : List Int} (h : env[0]? = some (.sh (scrD (ns.map PyData.int)))) : eA (fun ds => if ds.length = 2 then f__law_at ds else none) (aCons (eVar 0) (aCons (eC (.int 0)) aNil)) env = some (.int (ns.getD 0 0)) := at_ev (k := 0) h
theorem at1_ev {env : PL.Env} {ns : List Int} (h : env[0]? = some (.sh (scrD (ns.map PyData.int)))) : eA (fun ds => if ds.length = 2 then f__law_at ds else none) (aCons (eVar 0) (aCons (eC (.int 1)) aNil)) env = some (.int (ns.getD 1 0)) := at_ev (k := 1) h
theorem at2_ev {env : PL.Env} {ns : List Int} (h : env[0]? = some (.sh (scrD (ns.map PyData.int)))) : eA (fun ds => if ds.length = 2 then f__law_at ds else none) (aCons (eVar 0) (aCons (eC (.int 2)) aNil)) env = some (.int (ns.getD 2 0)) := at_ev (k := 2) h
theorem at3_ev {env : PL.Env} {ns : List Int} (h : env[0]? = some (.sh (scrD (ns.map PyData.int)))) : eA (fun ds => if ds.length = 2 then f__law_at ds else none) (aCons (eVar 0) (aCons (eC (.int 3)) aNil)) env = some (.int (ns.getD 3 0)) := at_ev (k := 3) h
theorem at4_ev {env : PL.Env} {ns : List Int} (h : env[0]? = some (.sh (scrD (ns.map PyData.int)))) : eA (fun ds => if ds.length = 2 then f__law_at ds else none) (aCons (eVar 0) (aCons (eC (.int 4)) aNil)) env = some (.int (ns.getD 4 0)) := at_ev (k := 4) h
theorem at5_ev {env : PL.Env} {ns : List Int} (h : env[0]? = some (.sh (scrD (ns.map PyData.int)))) : eA (fun ds => if ds.length = 2 then f__law_at ds else none) (aCons (eVar 0) (aCons (eC (.int 5)) aNil)) env = some (.int (ns.getD 5 0)) := at_ev (k := 5) h
def plotsBody : PL.Env → Option Out := (sSeq (sAsg (e2 (gIC cMod (· % ·)) (e2 (gIC cMod (· % ·)) (e2 (gIC cMul (· * ·)) (e2 gAdd (eA (fun ds => if ds.length = 2 then f__law_at ds else none) (aCons (eVar 0) (aCons (eC (.int 1)) aNil))) (e2 (gIC cMul (· * ·)) (eC (.int 7)) (eVarO 3))) (eC (.int 48271))) (eC (.int 10007))) (e2 gAdd (eVarO 3) (eC (.int 1)))) (tgN 4))
    (sSeq (sIf (tA (tE (e2 gEq (e2 (gIC cMod (· % ·)) (eA (fun ds => if ds.length = 2 then f__law_at ds else none) (aCons (eVar 0) (aCons (eC (.int 1)) aNil))) (eC (.int 4))) (eC (.int 3)))) (tE (e2 (gB fun i j => decide (j < i)) (eVarO 3) (eC (.int 0))))) (sAsg (e2 (gI (· - ·)) (eVarO 3) (eC (.int 1))) (tgN 4)) sNext)
    (sSeq (sAsg (eC .none) (tgN 5))
    (sSeq (sIf (tE (e2 (gB fun i j => decide (i < j)) (eVarO 4) (eVarO 3))) (sAsg (e2 gIx (e2 gIx (eVarO 2) (eVarO 4)) (eC (.int 0))) (tgN 5)) sNext)
    (sApp 2 (eTup (aCons (eA (fun ds => if ds.length = 3 then f__law_called ds else none) (aCons (e2 (gIC cDiv (· / ·)) (eA (fun ds => if ds.length = 2 then f__law_at ds else none) (aCons (eVar 0) (aCons (eC (.int 1)) aNil))) (eC (.int 3))) (aCons (eVar 3) (aCons (e2 gIx (eC (.str "abcdefghijkl")) (eVarO 3)) aNil)))) (aCons (eVar 5) aNil))))))))
theorem plots_turn (ns : List Int) (many : PyData) (i : Nat) (hi : i < 12) (a b c : Sl) :
    ∃ b' c', plotsBody
      [.sh (scrD (ns.map PyData.int)), .sh many, .own (((List.range i).map (plotM ns)).map encP), .sh (.int (i : Int)), b, c] = some (.nx [.sh (scrD (ns.map PyData.int)), .sh many, .own (((List.range (i + 1)).map (plotM ns)).map encP), .sh (.int (i : Int)), b', c']) := by
  unfold plotsBody
  rw [seq_asg (mod_ev (mod_ev (mul_ev (add_ev (at1_ev rfl) (mul_ev rfl rfl (cmul_l (by omega)))) rfl (cmul_r (by omega))) rfl (by omega)) (add_ev rfl rfl) (by omega))]
  rw [if_seq (tA_ev (eqi_ev (mod_ev (at1_ev rfl) rfl (by omega)) rfl) (fun _ => gt_ev rfl rfl))]
  have hpick : ∃ p : Nat, pickM ns i = (p : Int) := Int.eq_ofNat_of_zero_le (pickM_nn ns i)
  obtain ⟨p, hp⟩ := hpick
  dsimp only [List.set]
  have h2 : ∀ R : PL.Env → Option Out, sSeq (if (decide (ns.getD 1 0 % 4 = 3) && decide ((0 : Int) < (i : Int))) = true then sAsg (e2 (gI (· - ·)) (eVarO 3) (eC (.int 1))) (tgN 4) else sNext) R
      [.sh (scrD (ns.map PyData.int)), .sh many, .own (((List.range i).map (plotM ns)).map encP), .sh (.int (i : Int)), .sh (.int ((ns.getD 1 0 + 7 * (i : Int)) * 48271 % 10007 % ((i : Int) + 1))), c]
    = R [.sh (scrD (ns.map PyData.int)), .sh many, .own (((List.range i).map (plotM ns)).map encP), .sh (.int (i : Int)), .sh (.int (p : Int)), c] := fun R => by
    rw [← hp]
    unfold pickM
    by_cases hc : ns.getD 1 0 % 4 = 3 ∧ 0 < i
    · rw [if_pos hc, if_pos (by rw [Bool.and_eq_true, decide_eq_true_eq, decide_eq_true_eq]; omega)]
      rw [seq_nx (asg_nx (sub_ev rfl rfl))]
      rfl
    · rw [if_neg hc, if_neg (by rw [Bool.and_eq_true, decide_eq_true_eq, decide_eq_true_eq]; omega)]
      rfl
  rw [h2, seq_nx (asg_nx (d := .none) rfl)]
  dsimp only [List.set]
  have hname : ∀ s4 s5 : Sl, eA (fun ds => if ds.length = 3 then f__law_called ds else none) (aCons (e2 (gIC cDiv (· / ·)) (eA (fun ds => if ds.length = 2 then f__law_at ds else none) (aCons (eVar 0) (aCons (eC (.int 1)) aNil))) (eC (.int 3))) (aCons (eVar 3) (aCons (e2 gIx (eC (.str "abcdefghijkl")) (eVarO 3)) aNil))) [.sh (scrD (ns.map PyData.int)), .sh many, .own (((List.range i).map (plotM ns)).map encP), .sh (.int (i : Int)), s4, s5] = some (.str (nameM ns i)) := fun s4 s5 => by
    refine call3_ev (div_ev (at1_ev rfl) rfl (by omega)) (y := .int (i : Int)) rfl (u := .str ⟨#[97 + i]⟩) ?_ ?_
    · show (if (Str.ofString "abcdefghijkl").length ≤ 100000 then (atI (Str.ofString "abcdefghijkl").cps.toList ((i : Nat) : Int)).map fun c => PyData.str ⟨#[c]⟩ else none) = _
      rw [if_pos (by decide +kernel), abc_at i hi]
      rfl
    · have := m_called (ns.getD 1 0 / 3) i ⟨#[97 + i]⟩ (by show 1 ≤ 2; decide)
      exact this
  have happ : ∀ (s4 : Sl) (o : Option Str), sApp 2 (eTup (aCons (eA (fun ds => if ds.length = 3 then f__law_called ds else none) (aCons (e2 (gIC cDiv (· / ·)) (eA (fun ds => if ds.length = 2 then f__law_at ds else none) (aCons (eVar 0) (aCons (eC (.int 1)) aNil))) (eC (.int 3))) (aCons (eVar 3) (aCons (e2 gIx (eC (.str "abcdefghijkl")) (eVarO 3)) aNil)))) (aCons (eVar 5) aNil))) [.sh (scrD (ns.map PyData.int)), .sh many, .own (((List.range i).map (plotM ns)).map encP), .sh (.int (i : Int)), s4, .sh (optD o)] = some (.nx [.sh (scrD (ns.map PyData.int)), .sh many, .own (((List.range i).map (plotM ns)).map encP ++ [encP (nameM ns i, o)]), .sh (.int (i : Int)), s4, .sh (optD o)]) := fun s4 o => by
    rw [app_nx (ds := ((List.range i).map (plotM ns)).map encP) rfl (tup2_ev (hname _ _) rfl) (by rw [List.length_map, List.length_map, List.length_range]; omega)]
    rfl
  have hdone : ((List.range (i + 1)).map (plotM ns)).map encP = ((List.range i).map (plotM ns)).map encP ++ [encP (plotM ns i)] := by
    rw [List.range_succ, List.map_append, List.map_append]
    rfl
  rw [if_seq (lt_ev rfl rfl)]
  by_cases hc : (p : Int) < (i : Int)
  · rw [decide_eq_true hc, if_pos rfl]
    have hpl : plotM ns i = (nameM ns i, some (nameM ns p)) := by
      unfold plotM
      rw [hp, if_pos hc, Int.toNat_natCast]
    have h5 : e2 gIx (e2 gIx (eVarO 2) (eVarO 4)) (eC (.int 0)) [.sh (scrD (ns.map PyData.int)), .sh many, .own (((List.range i).map (plotM ns)).map encP), .sh (.int (i : Int)), .sh (.int (p : Int)), .sh .none] = some (.str (nameM ns p)) := by
      refine ixt_ev (ds := [.str (nameM ns p), optD (plotM ns p).2]) (ix_ev (ds := ((List.range i).map (plotM ns)).map encP) rfl rfl ?_) rfl rfl
      refine atI_nat' ?_
      rw [List.getElem?_map, List.getElem?_map, List.getElem?_range (by omega)]
      rfl
    rw [seq_nx (asg_nx h5)]
    dsimp only [List.set]
    refine ⟨.sh (.int (p : Int)), .sh (optD (some (nameM ns p))), (happ _ (some (nameM ns p))).trans ?_⟩
    rw [hdone, hpl]
  · rw [decide_eq_false hc, if_neg Bool.false_ne_true, next_seq]
    have hpl : plotM ns i = (nameM ns i, none) := by
      unfold plotM
      rw [hp, if_neg hc]
    refine ⟨.sh (.int (p : Int)), .sh (optD none), (happ _ none).trans ?_⟩
    rw [hdone, hpl]
theorem m_plots (ns : List Int) : f__law_plots [scrD (ns.map PyData.int)] = some ((plotsM ns).map encP) := by
  unfold f__law_plots fnN F__law_plots
  have h0 : fEnv 6 [scrD (ns.map PyData.int)] = [.sh (scrD (ns.map PyData.int)), .un, .un, .un, .un, .un] := rfl
  rw [h0, seq_asg (add_ev rfl (mod_ev (at0_ev rfl) rfl (by omega))), if_seq (eqi_ev (mod_ev (div_ev (at0_ev rfl) rfl (by omega)) rfl (by omega)) rfl)]
  dsimp only [List.set]
  have hm := manyM_le ns
  generalize hrest : sSeq (sOwn (nLst aNil) 2) _ = rest
  have h1 : sSeq (if decide (ns.getD 0 0 / 4 % 8 = 1) = true then sAsg (e2 (gI (· - ·)) (eC (.int 12)) (e2 (gIC cMod (· % ·)) (e2 (gIC cDiv (· / ·)) (eA (fun ds => if ds.length = 2 then f__law_at ds else none) (aCons (eVar 0) (aCons (eC (.int 0)) aNil))) (eC (.int 32))) (eC (.int 8)))) (tgN 1) else sNext) rest [.sh (scrD (ns.map PyData.int)), .sh (.int (1 + ns.getD 0 0 % 4)), .un, .un, .un, .un] = rest [.sh (scrD (ns.map PyData.int)), .sh (.int (manyM ns : Int)), .un, .un, .un, .un] := by
    by_cases hc : ns.getD 0 0 / 4 % 8 = 1
    · rw [decide_eq_true hc, if_pos rfl, seq_nx (asg_nx (sub_ev rfl (mod_ev (div_ev (at0_ev rfl) rfl (by omega)) rfl (by omega))))]
      have : (manyM ns : Int) = 12 - ns.getD 0 0 / 32 % 8 := by
        unfold manyM
        rw [if_pos hc]
        omega
      rw [this]
      rfl
    · rw [decide_eq_false hc, if_neg Bool.false_ne_true, next_seq]
      have : (manyM ns : Int) = 1 + ns.getD 0 0 % 4 := by
        unfold manyM
        rw [if_neg hc]
        omega
      rw [this]
  have h1' := h1
  show (match sSeq _ rest [.sh (scrD (ns.map PyData.int)), .sh (.int (1 + ns.getD 0 0 % 4)), .un, .un, .un, .un] with | some (.rtn es) => some es | _ => none) = _
  rw [h1', ← hrest]
  rw [seq_nx (e := [.sh (scrD (ns.map PyData.int)), .sh (.int (manyM ns : Int)), .own [], .un, .un, .un]) rfl]
  obtain ⟨e', h3, h4⟩ := for_inv (G := tgN 3) (F := plotsBody) (fun i e => i ≤ manyM ns ∧ ∃ a b c, e = [.sh (scrD (ns.map PyData.int)), .sh (.int (manyM ns : Int)), .own (((List.range i).map (plotM ns)).map encP), a, b, c]) (rgD 0 (manyM ns)) 0 [.sh (scrD (ns.map PyData.int)), .sh (.int (manyM ns : Int)), .own [], .un, .un, .un] ⟨Nat.zero_le _, _, _, _, rfl⟩ (fun i x e hx he => by
    rw [Nat.zero_add] at he ⊢
    obtain ⟨hi, a, b, c, rfl⟩ := he
    unfold rgD at hx
    rw [List.getElem?_map] at hx
    have hil : i < manyM ns := by
      have := (List.getElem?_eq_some_iff.mp (show (List.range (manyM ns))[i]? = some i by
        cases q : (List.range (manyM ns))[i]? with
        | none => rw [q] at hx; cases hx
        | some j =>
          obtain ⟨h1, h2⟩ := List.getElem?_eq_some_iff.mp q
          rw [List.getElem_range] at h2
          rw [h2])).1
      rw [List.length_range] at this
      exact this
    rw [List.getElem?_range hil] at hx
    cases hx
    obtain ⟨b', c', ht⟩ := plots_turn ns (.int (manyM ns : Int)) i (by omega) a b c
    refine ⟨[.sh (scrD (ns.map PyData.int)), .sh (.int (manyM ns : Int)), .own (((List.range (i + 1)).map (plotM ns)).map encP), .sh (.int (i : Int)), b', c'], .inl ?_, by omega, _, _, _, rfl⟩
    show plotsBody [.sh (scrD (ns.map PyData.int)), .sh (.int (manyM ns : Int)), .own (((List.range i).map (plotM ns)).map encP), .sh (.int (0 + (i : Int))), b, c] = _
    rw [Int.zero_add]
    exact ht)
  obtain ⟨_, a, b, c, rfl⟩ := h4
  have h5 : iR1 (aCons (eVarO 1) aNil) [.sh (scrD (ns.map PyData.int)), .sh (.int (manyM ns : Int)), .own [], .un, .un, .un] = some (rgD 0 (manyM ns)) := by
    show (if -100000 ≤ (manyM ns : Int) ∧ (manyM ns : Int) ≤ 100000 then some (rgD 0 (manyM ns : Int).toNat) else none) = _
    rw [if_pos (by omega), Int.toNat_natCast]
  have h6 : ∀ F, sFor (iR1 (aCons (eVarO 1) aNil)) (tgN 3) F [.sh (scrD (ns.map PyData.int)), .sh (.int (manyM ns : Int)), .own [], .un, .un, .un] = fGo (tgN 3) F (rgD 0 (manyM ns)) [.sh (scrD (ns.map PyData.int)), .sh (.int (manyM ns : Int)), .own [], .un, .un, .un] := fun F => by
    show (iR1 _ _).bind _ = _
    rw [h5]
    rfl
  show (match sSeq (sFor (iR1 (aCons (eVarO 1) aNil)) (tgN 3) plotsBody) (sRetO 2) [.sh (scrD (ns.map PyData.int)), .sh (.int (manyM ns : Int)), .own [], .un, .un, .un] with | some (.rtn es) => some es | _ => none) = _
  rw [seq_nx ((h6 _).trans h3)]
  have hz : 0 + (rgD 0 (manyM ns)).length = manyM ns := by
    unfold rgD
    rw [List.length_map, List.length_range]
    omega
  rw [hz]
  rfl
theorem m_names (ns : List Int) : f__law_names [scrD (ns.map PyData.int), encPs (plotsM ns)] = some ((namesM ns).map PyData.str) := by
  have hm := nmany_le (ns.getD 2 0)
  have hpl := manyM_le ns
  unfold f__law_names fnN F__law_names
  have h0 : fEnv 8 [scrD (ns.map PyData.int), encPs (plotsM ns)] = [.sh (scrD (ns.map PyData.int)), .sh (encPs (plotsM ns)), .un, .un, .un, .un, .un, .un] := rfl
  rw [h0, seq_asg (at2_ev rfl)]
  dsimp only [List.set]
  generalize hc : ns.getD 2 0 = c at *
  rw [seq_asg (add_ev (i := 1) rfl (mod_ev (i := c) rfl rfl (by omega)))]
  dsimp only [List.set]
  rw [if_seq (eqi_ev (mod_ev (div_ev (i := c) rfl rfl (by omega)) rfl (by omega)) rfl)]
  generalize hrest : sSeq (sIf (tE (e2 gEq (e2 (gIC cMod (· % ·)) (e2 (gIC cDiv (· / ·)) (eVarO 2) (eC (.int 5))) (eC (.int 4))) (eC (.int 1)))) _ _) _ = rest
  have hs : sSeq (if decide (c / 5 % 16 = 3) = true then sAsg (eC (.int 60)) (tgN 3) else sNext) rest [.sh (scrD (ns.map PyData.int)), .sh (encPs (plotsM ns)), .sh (.int c), .sh (.int (1 + c % 5)), .un, .un, .un, .un]
      = rest [.sh (scrD (ns.map PyData.int)), .sh (encPs (plotsM ns)), .sh (.int c), .sh (.int (nmanyM c : Int)), .un, .un, .un, .un] := by
    by_cases h : c / 5 % 16 = 3
    · rw [decide_eq_true h, if_pos rfl, seq_nx (asg_nx (d := .int 60) rfl)]
      have : nmanyM c = 60 := by unfold nmanyM; rw [if_pos h]; rfl
      rw [this]
      rfl
    · rw [decide_eq_false h, if_neg Bool.false_ne_true]
      have : (nmanyM c : Int) = 1 + c % 5 := by unfold nmanyM; rw [if_neg h]; omega
      rw [this]
      rfl
  rw [hs, ← hrest]
  rw [if_seq (eqi_ev (mod_ev (div_ev (i := c) rfl rfl (by omega)) rfl (by omega)) rfl)]
  unfold namesM
  rw [hc]
  by_cases h : c / 5 % 4 = 1
  · rw [decide_eq_true h, if_pos rfl, if_pos h]
    have hl : nLc (iLS (eVarO 1)) (tgT 2 (tgCons (tgN 6) (tgCons (tgN 7) tgNil))) (fun _ => some true) (eVar 6) [6, 7] [.sh (scrD (ns.map PyData.int)), .sh (encPs (plotsM ns)), .sh (.int c), .sh (.int (nmanyM c : Int)), .un, .un, .un, .un] = some ((plotsM ns).map fun q => .str q.1) := by
      have hi : iLS (eVarO 1) [.sh (scrD (ns.map PyData.int)), .sh (encPs (plotsM ns)), .sh (.int c), .sh (.int (nmanyM c : Int)), .un, .un, .un, .un] = some ((plotsM ns).map encP) := rfl
      unfold nLc
      rw [hi, Option.bind_some, if_pos (by rw [List.length_map, plots_len]; omega)]
      rw [lc_all (fun d => match d with | .tuple [a, b] => [.sh (scrD (ns.map PyData.int)), .sh (encPs (plotsM ns)), .sh (.int c), .sh (.int (nmanyM c : Int)), .un, .un, .sh a, .sh b] | _ => []) (fun d => match d with | .tuple [a, _] => a | _ => .none)]
      · rw [List.map_map]
        rfl
      · intro d m
        obtain ⟨q, _, rfl⟩ := List.mem_map.mp m
        rfl
      · intro d m
        obtain ⟨q, _, rfl⟩ := List.mem_map.mp m
        rfl
    have hsl : nSl (eL (nLc (iLS (eVarO 1)) (tgT 2 (tgCons (tgN 6) (tgCons (tgN 7) tgNil))) (fun _ => some true) (eVar 6) [6, 7])) oNone (oSome (eVarO 3)) [.sh (scrD (ns.map PyData.int)), .sh (encPs (plotsM ns)), .sh (.int c), .sh (.int (nmanyM c : Int)), .un, .un, .un, .un] = some ((((plotsM ns).map (·.1)).take (nmanyM c)).map PyData.str) := by
      unfold nSl
      rw [eL_ev hl]
      show some (PL.cutD ((plotsM ns).map fun q => PyData.str q.1) none (some (nmanyM c : Int))) = _
      rw [cutD_to, List.map_take, List.map_map]
      rfl
    have hr : ∀ R : PL.Env → Option Out, sSeq (sRetN (nSl (eL (nLc (iLS (eVarO 1)) (tgT 2 (tgCons (tgN 6) (tgCons (tgN 7) tgNil))) (fun _ => some true) (eVar 6) [6, 7])) oNone (oSome (eVarO 3)))) R [.sh (scrD (ns.map PyData.int)), .sh (encPs (plotsM ns)), .sh (.int c), .sh (.int (nmanyM c : Int)), .un, .un, .un, .un] = some (.rtn ((((plotsM ns).map (·.1)).take (nmanyM c)).map PyData.str)) := fun R => by
      unfold sSeq sRetN
      rw [hsl]
      rfl
    rw [hr]
  · rw [decide_eq_false h, if_neg Bool.false_ne_true, if_neg h, next_seq]
    rw [seq_asg (d := .str "zyxwvutsrqponmlkjihgfedcba") rfl]
    dsimp only [List.set]
    have hl : nLc (iR1 (aCons (eVarO 3) aNil)) (tgN 5) (fun _ => some true) (eA (fun ds => if ds.length = 3 then f__law_called ds else none) (aCons (e2 (gIC cDiv (· / ·)) (eVarO 2) (eC (.int 80))) (aCons (eVar 5) (aCons (e2 gAdd (e2 gIx (eC (.str "abc")) (e2 (gIC cDiv (· / ·)) (eVarO 5) (eC (.int 26)))) (e2 gIx (eVarO 4) (e2 (gIC cMod (· % ·)) (eVarO 5) (eC (.int 26))))) aNil)))) [5] [.sh (scrD (ns.map PyData.int)), .sh (encPs (plotsM ns)), .sh (.int c), .sh (.int (nmanyM c : Int)), .sh (.str "zyxwvutsrqponmlkjihgfedcba"), .un, .un, .un] = some (((List.range (nmanyM c)).map (nmM c)).map PyData.str) := by
      have hi : iR1 (aCons (eVarO 3) aNil) [.sh (scrD (ns.map PyData.int)), .sh (encPs (plotsM ns)), .sh (.int c), .sh (.int (nmanyM c : Int)), .sh (.str "zyxwvutsrqponmlkjihgfedcba"), .un, .un, .un] = some (rgD 0 (nmanyM c)) := by
        show (if -100000 ≤ (nmanyM c : Int) ∧ (nmanyM c : Int) ≤ 100000 then some (rgD 0 (nmanyM c : Int).toNat) else none) = _
        rw [if_pos (by omega)]
        rfl
      unfold nLc
      rw [hi, Option.bind_some, if_pos (by unfold rgD; rw [List.length_map, List.length_range]; omega)]
      rw [lc_all (fun d => [.sh (scrD (ns.map PyData.int)), .sh (encPs (plotsM ns)), .sh (.int c), .sh (.int (nmanyM c : Int)), .sh (.str "zyxwvutsrqponmlkjihgfedcba"), .sh d, .un, .un]) (fun d => match d with | .int i => .str (nmM c i.toNat) | _ => .none)]
      · unfold rgD
        rw [List.map_map, List.map_map]
        congr 1
        apply List.map_congr_left
        intro k _
        show PyData.str (nmM c (0 + (k : Int)).toNat) = .str (nmM c k)
        rw [Int.zero_add, Int.toNat_natCast]
      · intro d m
        rfl
      · intro d m
        unfold rgD at m
        obtain ⟨k, mk, rfl⟩ := List.mem_map.mp m
        rw [List.mem_range] at mk
        show _ = some (PyData.str (nmM c (0 + (k : Int)).toNat))
        rw [Int.zero_add, Int.toNat_natCast]
        have e1 : (k : Int) / 26 = ((k / 26 : Nat) : Int) := by omega
        have e2' : (k : Int) % 26 = ((k % 26 : Nat) : Int) := by omega
        have hb : ((⟨#[97 + k / 26]⟩ : Str) ++ (⟨#[122 - k % 26]⟩ : Str)) = ⟨#[97 + k / 26, 122 - k % 26]⟩ := rfl
        refine call3_ev (div_ev (i := c) rfl rfl (by omega)) (y := .int (k : Int)) rfl (u := .str ⟨#[97 + k / 26, 122 - k % 26]⟩) ?_ ?_
        · rw [← hb]
          refine cat_ev (strix_ev (z := "abc") rfl (div_ev (i := (k : Int)) rfl rfl (by omega)) (by decide +kernel) ?_) (strix_ev (z := "zyxwvutsrqponmlkjihgfedcba") rfl (mod_ev (i := (k : Int)) rfl rfl (by omega)) (by decide +kernel) ?_) (by show 1 + 1 ≤ 100000; omega)
          · rw [e1]
            exact abc3_at _ (by omega)
          · rw [e2']
            exact zyx_at _ (by omega)
        · exact m_called (c / 80) k ⟨#[97 + k / 26, 122 - k % 26]⟩ (by show 2 ≤ 2; omega)
    show (match sRetN _ _ with | some (.rtn es) => some es | _ => none) = _
    unfold sRetN
    rw [hl]
    rfl
theorem m_row (ps : List (Str × Option Str)) (nms : List Str) (c sz : Int) (h1 : 0 < ps.length) (h2 : 0 < nms.length) (h3 : 0 ≤ sz) : f__law_row [.int c, encPs ps, .list (nms.map PyData.str), .int sz] = some (encR (rowM ps nms c sz)) := by
  have hc : ∃ k : Nat, c % 10 = (k : Int) ∧ k < 10 := ⟨(c % 10).toNat, by omega, by omega⟩
  obtain ⟨k, hk, hk10⟩ := hc
  unfold f__law_row fnD F__law_row
  have h0 : fEnv 11 [.int c, encPs ps, .list (nms.map PyData.str), .int sz] = [.sh (.int c), .sh (encPs ps), .sh (.list (nms.map PyData.str)), .sh (.int sz), .un, .un, .un, .un, .un, .un, .un] := rfl
  rw [h0, seq_asg (mod_ev (add_ev (mul_ev (div_ev (i := c) rfl rfl (by omega)) rfl (cmul_r (by omega))) rfl) rfl (by omega))]
  dsimp only [List.set]
  rw [show (c / 10 * 48271 + 11) % 1000003 = moreM c from rfl]
  rw [seq_asg (pick_ev (l := nms) rfl rfl h2)]
  dsimp only [List.set]
  rw [seq_asg (pick_ev (l := nms) rfl (div_ev (i := moreM c) rfl rfl (by omega)) h2)]
  dsimp only [List.set]
  rw [seq_asg (pickp_ev (l := ps) rfl (div_ev (i := moreM c) rfl rfl (by omega)) h1)]
  dsimp only [List.set]
  rw [seq_asg (sub_ev (mod_ev (div_ev (i := c) rfl rfl (by omega)) rfl (by omega)) rfl)]
  dsimp only [List.set]
  rw [if_seq (eqi_ev (mod_ev (i := moreM c) rfl rfl (by omega)) rfl)]
  generalize hZ : (if moreM c % 4 = 1 then c / 10 % 2000000000000000001 - 1000000000000000000 else c / 10 % 19 - 9) = Z
  generalize hrest : sSeq (sAsg (e2 (gIC cMod (· % ·)) (e2 (gIC cDiv (· / ·)) (eVarO 4) (eC (.int 1013))) (e2 gAdd (eVarO 3) (eC (.int 1)))) (tgN 9)) _ = rest
  have hs : sSeq (if decide (moreM c % 4 = 1) = true then sAsg (e2 (gI (· - ·)) (e2 (gIC cMod (· % ·)) (e2 (gIC cDiv (· / ·)) (eVarO 0) (eC (.int 10))) (eC (.int 2000000000000000001))) (eC (.int 1000000000000000000))) (tgN 8) else sNext) rest
      [.sh (.int c), .sh (encPs ps), .sh (.list (nms.map PyData.str)), .sh (.int sz), .sh (.int (moreM c)), .sh (.str (pickS nms (moreM c))), .sh (.str (pickS nms (moreM c / 7))), .sh (.str (pickS (ps.map (·.1)) (moreM c / 61))), .sh (.int (c / 10 % 19 - 9)), .un, .un]
    = rest [.sh (.int c), .sh (encPs ps), .sh (.list (nms.map PyData.str)), .sh (.int sz), .sh (.int (moreM c)), .sh (.str (pickS nms (moreM c))), .sh (.str (pickS nms (moreM c / 7))), .sh (.str (pickS (ps.map (·.1)) (moreM c / 61))), .sh (.int Z), .un, .un] := by
    rw [← hZ]
    by_cases hc : moreM c % 4 = 1
    · rw [decide_eq_true hc, if_pos rfl, if_pos hc, seq_nx (asg_nx (sub_ev (mod_ev (div_ev (i := c) rfl rfl (by omega)) rfl (by omega)) rfl))]
      rfl
    · rw [decide_eq_false hc, if_neg Bool.false_ne_true, if_neg hc]
      rfl
  rw [hs, ← hrest]
  rw [seq_asg (mod_ev (div_ev (i := moreM c) rfl rfl (by omega)) (add_ev (i := sz) rfl rfl) (by omega))]
  dsimp only [List.set]
  rw [seq_asg (mod_ev (i := c) rfl rfl (by omega)), hk]
  dsimp only [List.set]
  have hrow : ∀ r, rowM ps nms c sz = r → encR (rowM ps nms c sz) = encR r := fun r h => by rw [h]
  have hm : (c % 10).toNat = k := by omega
  unfold rowM
  rw [hm, hZ]
  have hcs : k = 0 ∨ k = 1 ∨ k = 2 ∨ k = 3 ∨ k = 4 ∨ k = 5 ∨ k = 6 ∨ k = 7 ∨ k = 8 ∨ k = 9 := by omega
  rcases hcs with rfl | rfl | rfl | rfl | rfl | rfl | rfl | rfl | rfl | rfl <;> rfl
end K06
/-! The rows that a script tells; rows as data. -/
namespace PR
open PySem L2 PySem.Spec PyProof.Rows PL
theorem kb5 : kitB "tuple" "tuple" = some true := by decide +kernel
theorem isi_tuple (l : List PyData) : gIsi "tuple" (.tuple l) = some (.bool true) := by
  show (kitB "tuple" "tuple").map PyData.bool = _
  rw [kb5]
  rfl
theorem eqv_all {α : Type} {f : α → PyData} (h : ∀ a, PyData.eqv (f a) (f a) = true) : ∀ l : List α, PyData.eqvAll (l.map f) (l.map f) = true
  | [] => rfl
  | a :: l => by
    show (PyData.eqv (f a) (f a) && PyData.eqvAll (l.map f) (l.map f)) = true
    rw [h, eqv_all h l]
    rfl
theorem eqv_s (x : Str) : PyData.eqv (.str x) (.str x) = true := by rw [eqv_str]; simp
theorem eqv_i (x : Int) : PyData.eqv (.int x) (.int x) = true := by rw [eqv_int]; simp
theorem eqv_row (r : PL.Row) : PyData.eqv (encR r) (encR r) = true := by
  have two : ∀ a b : PyData, PyData.eqv a a = true → PyData.eqv b b = true → PyData.eqvAll [a, b] [a, b] = true := fun a b h1 h2 => by
    show (PyData.eqv a a && (PyData.eqv b b && true)) = true
    rw [h1, h2]
    rfl
  have more : ∀ (a : PyData) (l : List PyData), PyData.eqv a a = true → PyData.eqvAll l l = true → PyData.eqvAll (a :: l) (a :: l) = true := fun a l h1 h2 => by
    show (PyData.eqv a a && PyData.eqvAll l l) = true
    rw [h1, h2]
    rfl
  rw [encR_rowD]
  show PyData.eqvAll (rowD r) (rowD r) = true
  cases r with
  | open_ p => exact two _ _ (eqv_s _) (eqv_s _)
  | lay n p z => exact more _ _ (eqv_s _) (more _ _ (eqv_s _) (two _ _ (eqv_s _) (eqv_i _)))
  | copy n o p => exact more _ _ (eqv_s _) (more _ _ (eqv_s _) (two _ _ (eqv_s _) (eqv_s _)))
  | same n o => exact more _ _ (eqv_s _) (two _ _ (eqv_s _) (eqv_s _))
  | add n o => exact more _ _ (eqv_s _) (two _ _ (eqv_s _) (eqv_s _))
  | tell n => exact two _ _ (eqv_s _) (eqv_s _)
  | give p => exact two _ _ (eqv_s _) (eqv_s _)
  | fork k => exact two _ _ (eqv_s _) (eqv_i _)
  | go k => exact two _ _ (eqv_s _) (eqv_i _)
  | end_ => exact more _ [] (eqv_s _) rfl
theorem fit_row {r : PL.Row} (h : ∀ x ∈ textsR r, PyData.strOk x = true) : Fit 1 (encR r) := by
  cases r <;> (refine fit_tup (n := 0) fun e me => ?_; simp only [List.mem_cons, List.not_mem_nil, or_false] at me)
  · rcases me with rfl | rfl
    · exact fit_str 0 (by decide +kernel)
    · exact fit_str 0 (h _ (by simp [textsR]))
  · rcases me with rfl | rfl | rfl | rfl
    · exact fit_str 0 (by decide +kernel)
    · exact fit_str 0 (h _ (by simp [textsR]))
    · exact fit_str 0 (h _ (by simp [textsR]))
    · exact fit_int 0 _
  · rcases me with rfl | rfl | rfl | rfl
    · exact fit_str 0 (by decide +kernel)
    · exact fit_str 0 (h _ (by simp [textsR]))
    · exact fit_str 0 (h _ (by simp [textsR]))
    · exact fit_str 0 (h _ (by simp [textsR]))
  · rcases me with rfl | rfl | rfl
    · exact fit_str 0 (by decide +kernel)
    · exact fit_str 0 (h _ (by simp [textsR]))
    · exact fit_str 0 (h _ (by simp [textsR]))
  · rcases me with rfl | rfl | rfl
    · exact fit_str 0 (by decide +kernel)
    · exact fit_str 0 (h _ (by simp [textsR]))
    · exact fit_str 0 (h _ (by simp [textsR]))
  · rcases me with rfl | rfl
    · exact fit_str 0 (by decide +kernel)
    · exact fit_str 0 (h _ (by simp [textsR]))
  · rcases me with rfl | rfl
    · exact fit_str 0 (by decide +kernel)
    · exact fit_str 0 (h _ (by simp [textsR]))
  · rcases me with rfl | rfl
    · exact fit_str 0 (by decide +kernel)
    · exact fit_int 0 _
  · rcases me with rfl | rfl
    · exact fit_str 0 (by decide +kernel)
    · exact fit_int 0 _
  · subst me
    exact fit_str 0 (by decide +kernel)
theorem cutD_mid (ds : List PyData) (a b : Nat) (h : a ≤ b) : PL.cutD ds (some (a : Int)) (some (b : Int)) = (ds.drop a).take (b - a) := by
  unfold PL.cutD
  rw [HT.sIx_nat, HT.sIx_nat]
  by_cases h1 : ds.length ≤ a
  · have e1 : min a ds.length = ds.length := Nat.min_eq_right h1
    rw [e1, List.drop_eq_nil_of_le (Nat.le_refl _), List.drop_eq_nil_of_le h1]
    simp
  · have e1 : min a ds.length = a := Nat.min_eq_left (by omega)
    rw [e1]
    by_cases h2 : b ≤ ds.length
    · rw [Nat.min_eq_left h2]
    · rw [Nat.min_eq_right (by omega), List.take_of_length_le (by rw [List.length_drop]; omega), List.take_of_length_le (by rw [List.length_drop]; omega)]
def manyC (ns : List Int) : Nat := (40 + ns.getD 5 0 / 8 % 21).toNat
def cellC (ns : List Int) (k : Nat) : Int := ns.getD (6 + k % 3) 0 / 7 + 7919 * (k : Int)
def cellsM (ns : List Int) : List Int := if ns.getD 5 0 % 8 = 1 then (List.range (manyC ns)).map (cellC ns) else (ns.drop 6).take 14
def rowsC (ns : List Int) : List PL.Row := (cellsM ns).map fun c => rowM (plotsM ns) (namesM ns) c ((cellsM ns).length : Int)
theorem cells_len (ns : List Int) : (cellsM ns).length ≤ 60 := by
  unfold cellsM
  split
  · rw [List.length_map, List.length_range]
    unfold manyC
    omega
  · rw [List.length_take]
    omega
theorem rowsC_len (ns : List Int) : (rowsC ns).length = (cellsM ns).length := by unfold rowsC; rw [List.length_map]
theorem rowsC_texts (ns : List Int) : ∀ r ∈ rowsC ns, ∀ x ∈ textsR r, PyData.strOk x = true := by
  intro r m
  unfold rowsC at m
  obtain ⟨c, _, rfl⟩ := List.mem_map.mp m
  have h1 := manyM_le ns
  have h2 := names_len ns
  exact row_texts (by rw [plots_len]; omega) (by omega) (plots_ok ns) (names_ok ns) c _
def rowAt (rows : List PL.Row) (p : Nat) : PL.Row := rows.getD p .end_
theorem rowAt_texts {rows : List PL.Row} (h : ∀ r ∈ rows, ∀ x ∈ textsR r, PyData.strOk x = true) (p : Nat) : ∀ x ∈ textsR (rowAt rows p), PyData.strOk x = true := by
  unfold rowAt
  rw [List.getD_eq_getElem?_getD]
  cases hg : rows[p]? with
  | none => intro x m; exact absurd m (by simp [textsR])
  | some r => exact h r (List.mem_of_getElem? hg)
def optI : Option Int → PyData
  | none => .none
  | some x => .int x
def encY (q : Option Int × Int) : PyData := .tuple [optI q.1, .int q.2]
def waysM (rows : List PL.Row) (p : Nat) : List (Option Int × Int) := match rowAt rows p with
  | .end_ => []
  | .go k => [(none, k)]
  | .fork k => [(some 0, (p : Int) + 1), (some 1, k)]
  | _ => [(none, (p : Int) + 1)]
theorem eqv_y (q : Option Int × Int) : PyData.eqv (encY q) (encY q) = true := by
  obtain ⟨a, b⟩ := q
  show (PyData.eqv (optI a) (optI a) && (PyData.eqv (.int b) (.int b) && true)) = true
  rw [eqv_i]
  cases a with
  | none => rfl
  | some x =>
    show (PyData.eqv (.int x) (.int x) && _) = true
    rw [eqv_i]
    rfl
theorem fit_y (q : Option Int × Int) : Fit 1 (encY q) := by
  obtain ⟨a, b⟩ := q
  refine fit_tup (n := 0) fun e me => ?_
  simp only [List.mem_cons, List.not_mem_nil, or_false] at me
  rcases me with rfl | rfl
  · cases a with
    | none => exact fit_none 0
    | some x => exact fit_int 0 x
  · exact fit_int 0 b
/-! ### the chain of a plot, step by step -/
theorem chain_at (ns : List Int) : ∀ i : Nat, i < manyM ns → ∀ (t : Nat) (x : Str), (outM (plotsM ns) (nameM ns i))[t]? = some x → ∃ j, j < manyM ns ∧ x = nameM ns j ∧ (outM (plotsM ns) (nameM ns i))[t + 1]? = (plotM ns j).2 := by
  intro i
  induction i using Nat.strongRecOn with
  | ind i ih =>
    intro hi t x hx
    rw [chain_rec ns i hi] at hx ⊢
    have hpn := pickM_nn ns i
    cases t with
    | zero =>
      rw [List.getElem?_cons_zero] at hx
      cases hx
      refine ⟨i, hi, rfl, ?_⟩
      rw [List.getElem?_cons_succ]
      unfold plotM
      by_cases hp : pickM ns i < i
      · rw [if_pos hp, if_pos hp, chain_rec ns _ (by omega)]
        rfl
      · rw [if_neg hp, if_neg hp]
        rfl
    | succ t =>
      rw [List.getElem?_cons_succ] at hx
      rw [List.getElem?_cons_succ]
      by_cases hp : pickM ns i < i
      · rw [if_pos hp] at hx ⊢
        exact ih (pickM ns i).toNat (by omega) (by omega) t x hx
      · rw [if_neg hp] at hx
        cases hx
theorem chain_len (ns : List Int) : ∀ i : Nat, i < manyM ns → 1 ≤ (outM (plotsM ns) (nameM ns i)).length ∧ (outM (plotsM ns) (nameM ns i)).length ≤ i + 1 := by
  intro i
  induction i using Nat.strongRecOn with
  | ind i ih =>
    intro hi
    rw [chain_rec ns i hi]
    have hpn := pickM_nn ns i
    by_cases hp : pickM ns i < i
    · rw [if_pos hp, List.length_cons]
      have := ih (pickM ns i).toNat (by omega) (by omega)
      omega
    · rw [if_neg hp]
      show 1 ≤ 1 ∧ 1 ≤ i + 1
      omega
theorem chain_mem (ns : List Int) (i : Nat) (hi : i < manyM ns) : ∀ x ∈ outM (plotsM ns) (nameM ns i), PyData.strOk x = true := by
  intro x m
  obtain ⟨t, ht⟩ := List.getElem?_of_mem m
  obtain ⟨j, hj, rfl, _⟩ := chain_at ns i hi t x ht
  have := manyM_le ns
  exact nameM_ok ns j (by omega)
end PR
/-! Words of rows by number; facts. -/
namespace PR
open PySem L2 PySem.Spec PyProof.Rows PL
def kindR : PL.Row → Nat
  | .open_ _ => 0 | .lay .. => 1 | .copy .. => 2 | .same .. => 3 | .add .. => 4 | .tell _ => 5 | .give _ => 6 | .fork _ => 7 | .go _ => 8 | .end_ => 9
def wtab : Nat → Str
  | 0 => "open" | 1 => "lay" | 2 => "copy" | 3 => "same" | 4 => "add" | 5 => "tell" | 6 => "give" | 7 => "fork" | 8 => "go" | 9 => "end" | _ => ""
theorem wordR_tab (r : PL.Row) : wordR r = wtab (kindR r) := by cases r <;> rfl
theorem kindR_lt (r : PL.Row) : kindR r < 10 := by cases r <;> exact Nat.le_of_ble_eq_true rfl
theorem wtab_inj : ∀ i, i < 10 → ∀ j, j < 10 → decide (wtab i = wtab j) = decide (i = j) := by decide +kernel
theorem wtab_ok : ∀ j, j < 10 → PyData.strOk (wtab j) = true := by decide +kernel
theorem weq (r : PL.Row) {j : Nat} (hj : j < 10) : decide (wordR r = wtab j) = decide (kindR r = j) := by
  rw [wordR_tab]
  exact wtab_inj _ (kindR_lt r) _ hj
theorem weq_ev {a : PL.Env → Option PyData} {env : PL.Env} {r : PL.Row} (j : Nat) {z : Str} (ha : a env = some (.str (wordR r))) (hz : wtab j = z := by rfl) (hj : j < 10 := by decide) : tE (e2 gEq a (eC (.str z))) env = some (decide (kindR r = j)) := by
  subst hz
  rw [← weq r hj]
  exact eqz_ev ha rfl (wordR_ok r) (wtab_ok _ hj)
theorem wne_ev {a : PL.Env → Option PyData} {env : PL.Env} {r : PL.Row} (j : Nat) {z : Str} (ha : a env = some (.str (wordR r))) (hz : wtab j = z := by rfl) (hj : j < 10 := by decide) : tE (e2 gNe a (eC (.str z))) env = some (!decide (kindR r = j)) := by
  subst hz
  rw [← weq r hj]
  exact nez_ev ha rfl (wordR_ok r) (wtab_ok _ hj)
theorem look_tab {j : Nat} (hj : j < 10) (d : PyData) (rest : List (PyData × PyData)) (r : PL.Row) : lookP ((.str (wtab j), d) :: rest) (wordR r) = if kindR r = j then some d else lookP rest (wordR r) := by
  have h := weq r hj
  show (if wtab j = wordR r then some d else lookP rest (wordR r)) = _
  by_cases e : kindR r = j
  · rw [decide_eq_true e] at h
    rw [if_pos e, if_pos (of_decide_eq_true h).symm]
  · rw [decide_eq_false e] at h
    rw [if_neg e, if_neg (fun z => of_decide_eq_false h z.symm)]
theorem rl_no {t : PL.Env → Option Bool} {F R : PL.Env → Option Out} {env : PL.Env} (h : t env = some false) : sSeq (sIf t F sNext) R env = R env := by
  rw [if_seq h]
  rfl
theorem rl_yes {t : PL.Env → Option Bool} {F F2 R : PL.Env → Option Out} {env : PL.Env} (h : t env = some true) : sSeq (sIf t F F2) R env = sSeq F R env := by
  rw [if_seq h]
  rfl
theorem rt_ev {f : PL.Env → Option PyData} {R : PL.Env → Option Out} {env : PL.Env} {d : PyData} (h : f env = some d) : sSeq (sRet f) R env = some (.rt d) := by
  unfold sSeq sRet
  rw [h]
  rfl
theorem rt1_ev {f : PL.Env → Option PyData} {env : PL.Env} {d : PyData} (h : f env = some d) : sRet f env = some (.rt d) := by
  unfold sRet
  rw [h]
  rfl
theorem eqiv_ev {a b : PL.Env → Option PyData} {env : PL.Env} {i j : Int} (ha : a env = some (.int i)) (hb : b env = some (.int j)) : e2 gEq a b env = some (.bool (decide (i = j))) := by
  have h := eqi_ev ha hb
  unfold tE at h
  obtain ⟨d, hd, hb⟩ := Option.bind_eq_some_iff.mp h
  cases d <;> first | (cases hb; exact hd) | cases hb
theorem asg_seq {f : PL.Env → Option PyData} {gs : List PyData → PL.Env → Option PL.Env} {n : Nat} {F : PL.Env → Option Out} {env e : PL.Env} {d : PyData} (h : f env = some d) (hg : tgT n gs d env = some e) : sSeq (sAsg f (tgT n gs)) F env = F e := by
  unfold sSeq sAsg
  rw [h]
  simp only [Option.bind_some]
  rw [hg]
  rfl
/-! ### facts -/
inductive Fact where
  | plot (x : Str) (b : Bool)
  | name (x : Str) (w : Option Str)
  deriving DecidableEq
def encF : Fact → PyData
  | .plot x b => .tuple [.str "plot", .str x, .bool b]
  | .name x w => .tuple [.str "name", .str x, optD w]
def okF : Fact → Prop
  | .plot x _ => PyData.strOk x = true
  | .name x w => PyData.strOk x = true ∧ ∀ z, w = some z → PyData.strOk z = true
def wantN : PL.Row → List Str
  | .copy _ o _ => [o] | .same _ o => [o] | .add n o => [n, o] | .tell n => [n] | _ => []
def wantP (ps : List (Str × Option Str)) : PL.Row → Option Str
  | .open_ x => (getA ps x).getD none
  | .lay _ p _ => some p | .copy _ _ p => some p | .give p => some p | _ => none
/-- the word by which a row goes wrong by a fact alone -/
def wbM (ps : List (Str × Option Str)) (r : PL.Row) : Fact → Str
  | .plot x true => if kindR r = 9 then "left" else if r = .open_ x then "open already" else ""
  | .plot x false => if wantP ps r = some x then "not open" else ""
  | .name x w => if x ∈ wantN r then (match w with
    | none => "nothing"
    | some z => if z = "" ∧ kindR r ≠ 3 then "gone" else "") else ""
theorem wbM_up (ps : List (Str × Option Str)) (r : PL.Row) (x : Str) : wbM ps r (.plot x true) = (if kindR r = 9 then ("left" : Str) else if r = .open_ x then ("open already" : Str) else ("" : Str)) := rfl
theorem wbM_shut (ps : List (Str × Option Str)) (r : PL.Row) (x : Str) : wbM ps r (.plot x false) = (if wantP ps r = some x then ("not open" : Str) else ("" : Str)) := rfl
theorem wbM_name (ps : List (Str × Option Str)) (r : PL.Row) (x : Str) (w : Option Str) : wbM ps r (.name x w) = (if x ∈ wantN r then (match w with
    | none => ("nothing" : Str)
    | some z => if z = "" ∧ kindR r ≠ 3 then ("gone" : Str) else ("" : Str)) else ("" : Str)) := rfl
def RowOf (ps : List (Str × Option Str)) (r : PL.Row) : Prop := (∀ x ∈ textsR r, PyData.strOk x = true) ∧ ∀ x, r = .open_ x → x ∈ ps.map (·.1)
structure PGood (ps : List (Str × Option Str)) : Prop where
  ok : ps.all okP = true
  len : ps.length ≤ 1000
  nd : (ps.map (·.1)).Nodup
theorem pgood (ns : List Int) : PGood (plotsM ns) := ⟨plots_ok ns, by have := manyM_le ns; rw [plots_len]; omega, plots_nodup ns⟩
theorem PGood.str {ps : List (Str × Option Str)} (G : PGood ps) {x : Str} (h : x ∈ ps.map (·.1)) : PyData.strOk x = true := by
  obtain ⟨q, mq, e⟩ := List.mem_map.mp h
  rw [← e]
  have := List.all_eq_true.mp G.ok q mq
  unfold okP at this
  rw [Bool.and_eq_true] at this
  exact this.1
theorem PGood.out {ps : List (Str × Option Str)} (G : PGood ps) {q : Str × Option Str} (h : q ∈ ps) : ∀ z, q.2 = some z → PyData.strOk z = true := by
  intro z e
  have := List.all_eq_true.mp G.ok q h
  unfold okP at this
  rw [Bool.and_eq_true, e] at this
  exact this.2
theorem row_of {ps : List (Str × Option Str)} {nms : List Str} (G : PGood ps) (h1 : 0 < ps.length) (h2 : 0 < nms.length) (hn : ∀ x ∈ nms, PyData.strOk x = true) (c sz : Int) : RowOf ps (rowM ps nms c sz) := by
  refine ⟨row_texts h1 h2 G.ok hn c sz, fun x e => ?_⟩
  unfold rowM at e
  split at e <;> try cases e
  exact pickS_mem (by rw [List.length_map]; exact h1)
def whM (p : Str) : Nat → Option Str
  | 0 => none
  | 1 => some ""
  | _ => some p
def factM (ps : List (Str × Option Str)) (nms : List Str) (c : Int) : Fact :=
  if c % 3 = 0 then .plot (pickS (ps.map (·.1)) (c / 12 * 48271 % 10007)) (decide (c / 3 % 2 = 0))
  else .name (pickS nms (c / 36 * 16807 % 10009)) (whM (pickS (ps.map (·.1)) (c / 12 * 48271 % 10007)) (c / 3 % 4).toNat)
theorem factM_ok {ps : List (Str × Option Str)} {nms : List Str} (G : PGood ps) (h1 : 0 < ps.length) (h2 : 0 < nms.length) (hn : ∀ x ∈ nms, PyData.strOk x = true) (c : Int) : okF (factM ps nms c) := by
  have hp : PyData.strOk (pickS (ps.map (·.1)) (c / 12 * 48271 % 10007)) = true := G.str (pickS_mem (by rw [List.length_map]; exact h1))
  unfold factM
  split
  · exact hp
  · refine ⟨hn _ (pickS_mem h2), fun z e => ?_⟩
    unfold whM at e
    split at e
    · cases e
    · cases e
      decide +kernel
    · cases e
      exact hp
theorem pairsD_enc : ∀ ps : List (Str × Option Str), pairsD (ps.map encP) = some (ps.map fun q => (q.1, optD q.2))
  | [] => rfl
  | q :: ps => by
    show (pairD (encP q)).bind (fun q => (pairsD (ps.map encP)).map (q :: ·)) = _
    rw [pairsD_enc ps]
    rfl
theorem dict_ev {a : PL.Env → Option PyData} {env : PL.Env} {ps : List (Str × Option Str)} (ha : a env = some (encPs ps)) (nd : (ps.map (·.1)).Nodup) : eA gDict (aCons a aNil) env = some (.dict (kvP (ps.map (·.1)) (ps.map fun q => optD q.2))) := by
  unfold eA
  rw [acons_ev ha anil_ev]
  show (pairsD (ps.map encP)).bind (fun ps => if (ps.map (·.1)).Nodup then some (PyData.dict (kvP (ps.map (·.1)) (ps.map (·.2)))) else none) = _
  have h1 : (ps.map fun q => (q.1, optD q.2)).map (·.1) = ps.map (·.1) := by rw [List.map_map]; rfl
  have h2 : (ps.map fun q => (q.1, optD q.2)).map (·.2) = ps.map fun q => optD q.2 := by rw [List.map_map]; rfl
  rw [pairsD_enc, Option.bind_some, h1, h2, if_pos nd]
theorem look_ps {x : Str} : ∀ {ps : List (Str × Option Str)}, lookP (kvP (ps.map (·.1)) (ps.map fun q => optD q.2)) x = (getA ps x).map optD
  | [] => rfl
  | q :: ps => by
    show (if q.1 = x then some (optD q.2) else lookP (kvP (ps.map (·.1)) (ps.map fun q => optD q.2)) x) = _
    unfold getA
    by_cases e : q.1 = x
    · rw [if_pos e, List.find?_cons_of_pos (by simp [e])]
      rfl
    · rw [if_neg e, List.find?_cons_of_neg (by simp [e]), look_ps]
      rfl
theorem get_mem {ps : List (Str × Option Str)} {x : Str} (nd : (ps.map (·.1)).Nodup) (h : x ∈ ps.map (·.1)) : ∃ q ∈ ps, q.1 = x ∧ getA ps x = some q.2 := by
  obtain ⟨q, mq, rfl⟩ := List.mem_map.mp h
  exact ⟨q, mq, rfl, get_of_mem' nd mq⟩
theorem filt_key {α : Type} {l : List (Str × α)} {q : Str × α} (f : Str × α → Bool) (nd : (l.map (·.1)).Nodup) (m : q ∈ l) : l.filter (fun a => decide (a.1 = q.1) && f a) = if f q = true then [q] else [] := by
  induction l with
  | nil => cases m
  | cons a l ih =>
    rw [List.map_cons, List.nodup_cons] at nd
    rcases List.mem_cons.mp m with e | m
    · subst e
      have : l.filter (fun a => decide (a.1 = q.1) && f a) = [] := List.filter_eq_nil_iff.mpr fun b mb z => by
        rw [Bool.and_eq_true, decide_eq_true_eq] at z
        exact nd.1 (z.1 ▸ List.mem_map_of_mem mb)
      by_cases h : f q = true
      · rw [List.filter_cons_of_pos (by simp [h]), this, if_pos h]
      · rw [List.filter_cons_of_neg (by simp [h]), this, if_neg h]
    · have ne : ¬ a.1 = q.1 := fun e => nd.1 (e ▸ List.mem_map_of_mem m)
      rw [List.filter_cons_of_neg (by simp [ne])]
      exact ih nd.2 m
/-- a text in a list of texts or nothing -/
theorem in_opts {neg : Bool} {x : Str} {l : List (Option Str)} (hx : PyData.strOk x = true) (hl : ∀ y ∈ l, ∀ z, y = some z → PyData.strOk z = true) : gInL neg (.str x) (.list (l.map optD)) = some (.bool (if neg then !decide (some x ∈ l) else decide (some x ∈ l))) := by
  unfold gInL
  have h1 : SeqAt.shaped (.list (l.map optD)) = true := (fit_list (n := 0) fun d m => by
    obtain ⟨y, my, rfl⟩ := List.mem_map.mp m
    cases y with
    | none => exact fit_none 0
    | some z => exact fit_str 0 (hl _ my z rfl)).sh (by omega)
  show (if SeqAt.shaped (.str x) && SeqAt.shaped (.list (l.map optD)) then some (PyData.bool (if neg then !(l.map optD).any fun z => PyData.eqv z (.str x) else (l.map optD).any fun z => PyData.eqv z (.str x))) else none) = _
  rw [shaped_str hx, h1]
  have h2 : ((l.map optD).any fun z => PyData.eqv z (.str x)) = decide (some x ∈ l) := by
    rw [List.any_map, Bool.eq_iff_iff, List.any_eq_true, decide_eq_true_eq]
    constructor
    · rintro ⟨y, my, e⟩
      cases y with
      | none => exact absurd e (by intro z; cases z)
      | some y =>
        have e' : PyData.eqv (.str y) (.str x) = true := e
        rw [eqv_str] at e'
        rw [← of_decide_eq_true e']
        exact my
    · intro m
      refine ⟨some x, m, ?_⟩
      show PyData.eqv (.str x) (.str x) = true
      rw [eqv_str]
      simp
  rw [h2]
  rfl
theorem ino_ev {neg : Bool} {a b : PL.Env → Option PyData} {env : PL.Env} {x : Str} {l : List (Option Str)} (ha : a env = some (.str x)) (hb : b env = some (.list (l.map optD))) (hx : PyData.strOk x = true) (hl : ∀ y ∈ l, ∀ z, y = some z → PyData.strOk z = true) : tE (e2 (gInL neg) a b) env = some (if neg then !decide (some x ∈ l) else decide (some x ∈ l)) := te2r_ev ha hb (in_opts hx hl)
end PR
/-! What stems from a fact. -/
namespace PR
open PySem L2 PySem.Spec PyProof.Rows PL
theorem outGo_mem {y : Str} : ∀ {l : List (Str × Option Str)} {w : Option Str}, y ∈ outGo l w → y ∈ l.map (·.1)
  | [], _, h => by cases h
  | q :: l, w, h => by
    rw [List.map_cons]
    have h : y ∈ (if w = some q.1 then q.1 :: outGo l q.2 else outGo l w) := h
    split at h
    · rcases List.mem_cons.mp h with e | h
      · rw [e]; exact List.mem_cons_self ..
      · exact List.mem_cons_of_mem _ (outGo_mem h)
    · exact List.mem_cons_of_mem _ (outGo_mem h)
theorem outM_mem {ps : List (Str × Option Str)} {x y : Str} (h : y ∈ outM ps x) : y ∈ ps.map (·.1) := by
  have := outGo_mem h
  rw [List.map_reverse, List.mem_reverse] at this
  exact this
theorem andb_ev {a b : PL.Env → Option PyData} {env : PL.Env} {x y : Bool} (ha : tE a env = some x) (hb : x = true → b env = some (.bool y)) : eAndB a b env = some (.bool (x && y)) := by
  unfold eAndB
  rw [ha]
  cases x with
  | true => exact hb rfl
  | false => rfl
theorem orb_ev {a b : PL.Env → Option PyData} {env : PL.Env} {x y : Bool} (ha : tE a env = some x) (hb : x = false → b env = some (.bool y)) : eOrB a b env = some (.bool (x || y)) := by
  unfold eOrB
  rw [ha]
  cases x with
  | false => exact hb rfl
  | true => rfl
theorem tv_ev {f : PL.Env → Option PyData} {env : PL.Env} {b : Bool} (h : tE f env = some b) : f env = some (.bool b) := by
  unfold tE at h
  obtain ⟨d, hd, hb⟩ := Option.bind_eq_some_iff.mp h
  cases d <;> first | (cases hb; exact hd) | cases hb
theorem vt_ev {f : PL.Env → Option PyData} {env : PL.Env} {b : Bool} (h : f env = some (.bool b)) : tE f env = some b := by
  unfold tE
  rw [h]
  rfl
def laysR : PL.Row → Bool
  | .lay .. => true | .copy .. => true | _ => false
def firstN : PL.Row → Str
  | .lay n _ _ => n | .copy n _ _ => n | .same n _ => n | _ => ""
def givesM (ps : List (Str × Option Str)) : PL.Row → Str → Bool
  | .give p, x => decide (p ∈ outM ps x)
  | _, _ => false
def gvM (ps : List (Str × Option Str)) (r : PL.Row) : Option Str → Bool
  | none => false
  | some z => decide (z ≠ "") && givesM ps r z
def bhP (ps : List (Str × Option Str)) (r : PL.Row) (x : Str) (b : Bool) : List Fact :=
  if r = .open_ x then [.plot x true] else if givesM ps r x = true then [.plot x false] else if laysR r = true ∧ wantP ps r = some x then [.plot x b, .name (firstN r) (some x)] else [.plot x b]
def bhN (ps : List (Str × Option Str)) (r : PL.Row) (x : Str) (w : Option Str) : List Fact := match r with
  | .same n o => if n = o then [.name x w] else (if x = n then [] else [.name x w]) ++ (if x = o then [.name n w] else [])
  | .lay n _ _ => if n = x then [] else [.name x w]
  | .copy n _ _ => if n = x then [] else [.name x w]
  | .give p => match w with
    | none => [.name x none]
    | some z => if z ≠ "" ∧ p ∈ outM ps z then [.name x (some "")] else [.name x w]
  | _ => [.name x w]
/-- what stems from a fact -/
def bhM (ps : List (Str × Option Str)) (r : PL.Row) : Fact → List Fact
  | .plot x b => bhP ps r x b
  | .name x w => bhN ps r x w
theorem firstN_ok {r : PL.Row} (h : ∀ x ∈ textsR r, PyData.strOk x = true) : PyData.strOk (firstN r) = true := by
  cases r <;> first | exact (by decide +kernel : PyData.strOk ("" : Str) = true) | exact h _ (by simp [textsR, firstN])
theorem bhM_ok {ps : List (Str × Option Str)} {r : PL.Row} {f : Fact} (hr : ∀ x ∈ textsR r, PyData.strOk x = true) (hf : okF f) : ∀ g ∈ bhM ps r f, okF g := by
  have h0 : PyData.strOk ("" : Str) = true := by decide +kernel
  intro g m
  cases f with
  | plot x b =>
    have m : g ∈ bhP ps r x b := m
    have hx : PyData.strOk x = true := hf
    unfold bhP at m
    split at m
    · rw [List.mem_singleton] at m; rw [m]; exact hx
    · split at m
      · rw [List.mem_singleton] at m; rw [m]; exact hx
      · split at m
        · simp only [List.mem_cons, List.not_mem_nil, or_false] at m
          rcases m with rfl | rfl
          · exact hx
          · exact ⟨firstN_ok hr, fun z e => by cases e; exact hx⟩
        · rw [List.mem_singleton] at m; rw [m]; exact hx
  | name x w =>
    have m : g ∈ bhN ps r x w := m
    cases r with
    | same n o =>
      have m : g ∈ (if n = o then [Fact.name x w] else (if x = n then [] else [.name x w]) ++ (if x = o then [.name n w] else [])) := m
      split at m
      · rw [List.mem_singleton] at m; rw [m]; exact hf
      · rcases List.mem_append.mp m with m | m
        · split at m
          · cases m
          · rw [List.mem_singleton] at m; rw [m]; exact hf
        · split at m
          · rw [List.mem_singleton] at m; rw [m]; exact ⟨hr n (by simp [textsR]), hf.2⟩
          · cases m
    | lay n p z =>
      have m : g ∈ (if n = x then [] else [Fact.name x w]) := m
      split at m
      · cases m
      · rw [List.mem_singleton] at m; rw [m]; exact hf
    | copy n o p =>
      have m : g ∈ (if n = x then [] else [Fact.name x w]) := m
      split at m
      · cases m
      · rw [List.mem_singleton] at m; rw [m]; exact hf
    | give p =>
      cases w with
      | none =>
        have m : g ∈ [Fact.name x none] := m
        rw [List.mem_singleton] at m; rw [m]; exact hf
      | some z =>
        have m : g ∈ (if z ≠ "" ∧ p ∈ outM ps z then [Fact.name x (some "")] else [.name x (some z)]) := m
        split at m
        · rw [List.mem_singleton] at m; rw [m]; exact ⟨hf.1, fun z e => by cases e; exact h0⟩
        · rw [List.mem_singleton] at m; rw [m]; exact hf
    | _ =>
      have m : g ∈ [Fact.name x w] := m
      rw [List.mem_singleton] at m; rw [m]; exact hf
theorem eqv_b (b : Bool) : PyData.eqv (.bool b) (.bool b) = true := by cases b <;> rfl
theorem eqv_o (o : Option Str) : PyData.eqv (optD o) (optD o) = true := by
  cases o with
  | none => rfl
  | some x => exact eqv_s x
theorem eqv_fact (f : Fact) : PyData.eqv (encF f) (encF f) = true := by
  cases f with
  | plot x b =>
    show (PyData.eqv (.str "plot") (.str "plot") && (PyData.eqv (.str x) (.str x) && (PyData.eqv (.bool b) (.bool b) && true))) = true
    rw [eqv_s, eqv_s, eqv_b]
    rfl
  | name x w =>
    show (PyData.eqv (.str "name") (.str "name") && (PyData.eqv (.str x) (.str x) && (PyData.eqv (optD w) (optD w) && true))) = true
    rw [eqv_s, eqv_s, eqv_o]
    rfl
theorem fit_fact {f : Fact} (h : okF f) : Fit 1 (encF f) := by
  cases f with
  | plot x b =>
    refine fit_tup (n := 0) fun e me => ?_
    simp only [List.mem_cons, List.not_mem_nil, or_false] at me
    rcases me with rfl | rfl | rfl
    · exact fit_str 0 (by decide +kernel)
    · exact fit_str 0 h
    · exact fit_bool 0 b
  | name x w =>
    refine fit_tup (n := 0) fun e me => ?_
    simp only [List.mem_cons, List.not_mem_nil, or_false] at me
    rcases me with rfl | rfl | rfl
    · exact fit_str 0 (by decide +kernel)
    · exact fit_str 0 h.1
    · cases w with
      | none => exact fit_none 0
      | some z => exact fit_str 0 (h.2 z rfl)
theorem fit_facts {l : List Fact} (h : ∀ g ∈ l, okF g) : Fit 2 (.list (l.map encF)) := fit_list fun d m => by
  obtain ⟨g, mg, rfl⟩ := List.mem_map.mp m
  exact fit_fact (h g mg)
theorem rowIs_ev {a b : PL.Env → Option PyData} {env : PL.Env} {r : PL.Row} {x : Str} (ha : a env = some (encR r)) (hb : b env = some (encR (.open_ x))) (hr : ∀ x ∈ textsR r, PyData.strOk x = true) (hx : PyData.strOk x = true) : tE (e2 gEq a b) env = some (decide (r = .open_ x)) := by
  refine te2r_ev ha hb ?_
  show (if SeqAt.shaped (encR r) && SeqAt.shaped (encR (.open_ x)) then some (PyData.bool (PyData.eqv (encR r) (encR (.open_ x)))) else none) = _
  rw [(fit_row hr).sh (by omega), (fit_row (r := .open_ x) (fun y m => by
    simp only [textsR, List.mem_cons, List.not_mem_nil, or_false] at m
    rw [m]
    exact hx)).sh (by omega)]
  show some (PyData.bool (PyData.eqv (encR r) (encR (.open_ x)))) = _
  congr 2
  rw [encR_rowD, encR_rowD]
  show PyData.eqvAll (rowD r) (rowD (.open_ x)) = _
  have hw : PyData.eqv (.str (wordR r)) (.str (wtab 0)) = decide (kindR r = 0) := by
    rw [eqv_str]
    exact weq r (by decide)
  cases r with
  | open_ y =>
    show (PyData.eqv (.str "open") (.str "open") && (PyData.eqv (.str y) (.str x) && true)) = _
    rw [eqv_str, eqv_str, Bool.and_true, decide_eq_true rfl, Bool.true_and]
    exact decide_eq_decide.mpr ⟨fun h => by rw [h], fun h => by cases h; rfl⟩
  | lay n p z => exact (congrArg (· && _) hw).trans (decide_eq_false (fun z => by cases z)).symm
  | copy n o p => exact (congrArg (· && _) hw).trans (decide_eq_false (fun z => by cases z)).symm
  | same n o => exact (congrArg (· && _) hw).trans (decide_eq_false (fun z => by cases z)).symm
  | add n o => exact (congrArg (· && _) hw).trans (decide_eq_false (fun z => by cases z)).symm
  | tell n => exact (congrArg (· && _) hw).trans (decide_eq_false (fun z => by cases z)).symm
  | give p => exact (congrArg (· && _) hw).trans (decide_eq_false (fun z => by cases z)).symm
  | fork k => exact (congrArg (· && _) hw).trans (decide_eq_false (fun z => by cases z)).symm
  | go k => exact (congrArg (· && _) hw).trans (decide_eq_false (fun z => by cases z)).symm
  | end_ => exact (congrArg (· && _) hw).trans (decide_eq_false (fun z => by cases z)).symm
theorem rn_ev {f : PL.Env → Option (List PyData)} {R : PL.Env → Option Out} {env : PL.Env} {ds : List PyData} (h : f env = some ds) : sSeq (sRetN f) R env = some (.rtn ds) := by
  unfold sSeq sRetN
  rw [h]
  rfl
theorem rn1_ev {f : PL.Env → Option (List PyData)} {env : PL.Env} {ds : List PyData} (h : f env = some ds) : sRetN f env = some (.rtn ds) := by
  unfold sRetN
  rw [h]
  rfl
theorem seq_rtn {F R : PL.Env → Option Out} {env : PL.Env} {ds : List PyData} (h : F env = some (.rtn ds)) : sSeq F R env = some (.rtn ds) := by
  unfold sSeq
  rw [h]
  rfl
theorem nlst_ev {f : PL.Env → Option (List PyData)} {env : PL.Env} {ds : List PyData} (h : f env = some ds) (hl : ds.length ≤ 100000) : nLst f env = some ds := by
  unfold nLst short
  rw [h, Option.bind_some, if_pos hl]
theorem wantP_ok {ps : List (Str × Option Str)} (G : PGood ps) {r : PL.Row} (hr : RowOf ps r) : ∀ z, wantP ps r = some z → PyData.strOk z = true := fun z e => by
  cases r with
  | open_ y =>
    obtain ⟨q, mq, _, hg⟩ := get_mem G.nd (hr.2 y rfl)
    have e' : (getA ps y).getD none = some z := e
    rw [hg] at e'
    exact G.out mq z e'
  | lay n p k => cases e; exact hr.1 _ (by simp [textsR])
  | copy n o p => cases e; exact hr.1 _ (by simp [textsR])
  | give p => cases e; exact hr.1 _ (by simp [textsR])
  | _ => cases e
theorem eqo_ev {a b : PL.Env → Option PyData} {env : PL.Env} {n : Str} {w : Option Str} (ha : a env = some (optD w)) (hb : b env = some (.str n)) (h1 : PyData.strOk n = true) (h2 : ∀ x, w = some x → PyData.strOk x = true) : tE (e2 gEq a b) env = some (decide (w = some n)) := by
  refine te2r_ev ha hb ?_
  cases w with
  | none =>
    show (if SeqAt.shaped .none && SeqAt.shaped (.str n) then some (PyData.bool (PyData.eqv .none (.str n))) else none) = _
    rw [shaped_str h1]
    rfl
  | some x =>
    show (if SeqAt.shaped (.str x) && SeqAt.shaped (.str n) then some (PyData.bool (PyData.eqv (.str x) (.str n))) else none) = _
    rw [shaped_str h1, shaped_str (h2 x rfl), eqv_str]
    show some (PyData.bool (decide (x = n))) = some (PyData.bool (decide (some x = some n)))
    congr 2
    exact decide_eq_decide.mpr ⟨fun h => by rw [h], fun h => Option.some.inj h⟩
theorem len_ne (z : Str) : ((z.length : Int) != 0) = decide (z ≠ "") := by
  rw [Bool.eq_iff_iff, bne_iff_ne, decide_eq_true_eq]
  constructor
  · intro h e
    rw [e] at h
    exact h (by decide +kernel)
  · intro h e
    apply h
    have hl : (cs z).length = 0 := by rw [cs_len]; omega
    have : cs z = [] := List.length_eq_zero_iff.mp hl
    exact cs_inj (this.trans (by decide +kernel : ([] : List Nat) = cs (Str.ofString "")))
end PR
namespace K06
open PySem L2 PySem.Spec PyProof.Rows PL PR
theorem six20_ev {env : PL.Env} {ns : List Int} (h : env[0]? = some (.sh (scrD (ns.map PyData.int)))) : nSl (eVarO 0) (oSome (eC (.int 6))) (oSome (eC (.int 20))) env = some (((ns.drop 6).take 14).map PyData.int) := by
  have h1 : eVarO 0 env = some (scrD (ns.map PyData.int)) := by
    unfold eVarO
    rw [h]
  unfold nSl
  rw [h1]
  show some (PL.cutD (ns.map PyData.int) (some ((6 : Nat) : Int)) (some ((20 : Nat) : Int))) = _
  rw [cutD_mid _ _ _ (by omega), List.map_take, List.map_drop]
def F_cells : PL.Env → Option Out := sIf (tE (e2 gEq (e2 (gIC cMod (· % ·)) (eA (fun ds => if ds.length = 2 then f__law_at ds else none) (aCons (eVar 0) (aCons (eC (.int 5)) aNil))) (eC (.int 8))) (eC (.int 1)))) (sAsg (eL (nLc (iR1 (aCons (e2 gAdd (eC (.int 40)) (e2 (gIC cMod (· % ·)) (e2 (gIC cDiv (· / ·)) (eA (fun ds => if ds.length = 2 then f__law_at ds else none) (aCons (eVar 0) (aCons (eC (.int 5)) aNil))) (eC (.int 8))) (eC (.int 21)))) aNil)) (tgN 12) (fun _ => some true) (e2 gAdd (e2 (gIC cDiv (· / ·)) (eA (fun ds => if ds.length = 2 then f__law_at ds else none) (aCons (eVar 0) (aCons (e2 gAdd (eC (.int 6)) (e2 (gIC cMod (· % ·)) (eVarO 12) (eC (.int 3)))) aNil))) (eC (.int 7))) (e2 (gIC cMul (· * ·)) (eC (.int 7919)) (eVarO 12))) [12])) (tgN 3)) sNext
theorem cells_ev (ns : List Int) (R : PL.Env → Option Out) (d1 d2 : PyData) : sSeq F_cells R [.sh (scrD (ns.map PyData.int)), .sh d1, .sh d2, .sh (.list (((ns.drop 6).take 14).map PyData.int)), .un, .un, .un, .un, .un, .un, .un, .un, .un, .un, .un, .un]
    = R [.sh (scrD (ns.map PyData.int)), .sh d1, .sh d2, .sh (.list ((cellsM ns).map PyData.int)), .un, .un, .un, .un, .un, .un, .un, .un, .un, .un, .un, .un] := by
  unfold F_cells
  rw [if_seq (eqi_ev (mod_ev (at5_ev rfl) rfl (by omega)) rfl)]
  unfold cellsM
  by_cases hc : ns.getD 5 0 % 8 = 1
  · rw [decide_eq_true hc, if_pos rfl, if_pos hc]
    have hl : nLc (iR1 (aCons (e2 gAdd (eC (.int 40)) (e2 (gIC cMod (· % ·)) (e2 (gIC cDiv (· / ·)) (eA (fun ds => if ds.length = 2 then f__law_at ds else none) (aCons (eVar 0) (aCons (eC (.int 5)) aNil))) (eC (.int 8))) (eC (.int 21)))) aNil)) (tgN 12) (fun _ => some true) (e2 gAdd (e2 (gIC cDiv (· / ·)) (eA (fun ds => if ds.length = 2 then f__law_at ds else none) (aCons (eVar 0) (aCons (e2 gAdd (eC (.int 6)) (e2 (gIC cMod (· % ·)) (eVarO 12) (eC (.int 3)))) aNil))) (eC (.int 7))) (e2 (gIC cMul (· * ·)) (eC (.int 7919)) (eVarO 12))) [12] [.sh (scrD (ns.map PyData.int)), .sh d1, .sh d2, .sh (.list (((ns.drop 6).take 14).map PyData.int)), .un, .un, .un, .un, .un, .un, .un, .un, .un, .un, .un, .un] = some (((List.range (manyC ns)).map (cellC ns)).map PyData.int) := by
      have hm : (manyC ns : Int) = 40 + ns.getD 5 0 / 8 % 21 := by unfold manyC; omega
      have hi : iR1 (aCons (e2 gAdd (eC (.int 40)) (e2 (gIC cMod (· % ·)) (e2 (gIC cDiv (· / ·)) (eA (fun ds => if ds.length = 2 then f__law_at ds else none) (aCons (eVar 0) (aCons (eC (.int 5)) aNil))) (eC (.int 8))) (eC (.int 21)))) aNil) [.sh (scrD (ns.map PyData.int)), .sh d1, .sh d2, .sh (.list (((ns.drop 6).take 14).map PyData.int)), .un, .un, .un, .un, .un, .un, .un, .un, .un, .un, .un, .un] = some (rgD 0 (manyC ns)) := by
        unfold iR1
        rw [acons_ev (add_ev (i := 40) rfl (mod_ev (div_ev (at5_ev rfl) rfl (by omega)) rfl (by omega))) anil_ev, ← hm]
        show (if -100000 ≤ (manyC ns : Int) ∧ (manyC ns : Int) ≤ 100000 then some (rgD 0 (manyC ns : Int).toNat) else none) = _
        rw [if_pos (by omega)]
        rfl
      unfold nLc
      rw [hi, Option.bind_some, if_pos (by unfold rgD; rw [List.length_map, List.length_range]; omega)]
      rw [lc_all (fun d => [.sh (scrD (ns.map PyData.int)), .sh d1, .sh d2, .sh (.list (((ns.drop 6).take 14).map PyData.int)), .un, .un, .un, .un, .un, .un, .un, .un, .sh d, .un, .un, .un]) (fun d => match d with | .int i => .int (cellC ns i.toNat) | _ => .none)]
      · unfold rgD
        rw [List.map_map, List.map_map]
        congr 1
        apply List.map_congr_left
        intro k _
        show PyData.int (cellC ns (0 + (k : Int)).toNat) = .int (cellC ns k)
        rw [Int.zero_add, Int.toNat_natCast]
      · intro d m
        rfl
      · intro d m
        unfold rgD at m
        obtain ⟨k, mk, rfl⟩ := List.mem_map.mp m
        show _ = some (PyData.int (cellC ns (0 + (k : Int)).toNat))
        rw [Int.zero_add, Int.toNat_natCast]
        have hy : e2 gAdd (eC (.int 6)) (e2 (gIC cMod (· % ·)) (eVarO 12) (eC (.int 3))) [.sh (scrD (ns.map PyData.int)), .sh d1, .sh d2, .sh (.list (((ns.drop 6).take 14).map PyData.int)), .un, .un, .un, .un, .un, .un, .un, .un, .sh (.int (k : Int)), .un, .un, .un] = some (.int ((6 + k % 3 : Nat) : Int)) := by
          rw [add_ev (i := 6) rfl (mod_ev (i := (k : Int)) rfl rfl (by omega))]
          congr 2
        rw [add_ev (div_ev (call2_ev (x := scrD (ns.map PyData.int)) rfl hy (m_at ns _)) rfl (by omega)) (mul_ev (i := 7919) (j := (k : Int)) rfl rfl (cmul_l (by omega)))]
        rfl
    rw [seq_asg (eL_ev hl)]
    rfl
  · rw [decide_eq_false hc, if_neg Bool.false_ne_true, if_neg hc]
    rfl
def F_rows : PL.Env → Option (List PyData) := nLc (iLS (eVarO 3)) (tgN 11) (fun _ => some true) (eA (fun ds => if ds.length = 4 then f__law_row ds else none) (aCons (eVar 11) (aCons (eVar 1) (aCons (eVar 2) (aCons (eA gLen (aCons (eVarO 3) aNil)) aNil))))) [11]
theorem rows_ev (ns : List Int) : F_rows [.sh (scrD (ns.map PyData.int)), .sh (encPs (plotsM ns)), .sh (.list ((namesM ns).map PyData.str)), .sh (.list ((cellsM ns).map PyData.int)), .un, .un, .un, .un, .un, .un, .un, .un, .un, .un, .un, .un] = some ((rowsC ns).map encR) := by
  have hn := names_len ns
  have hm := manyM_le ns
  have hcl := cells_len ns
  unfold F_rows nLc
  have hi : iLS (eVarO 3) [.sh (scrD (ns.map PyData.int)), .sh (encPs (plotsM ns)), .sh (.list ((namesM ns).map PyData.str)), .sh (.list ((cellsM ns).map PyData.int)), .un, .un, .un, .un, .un, .un, .un, .un, .un, .un, .un, .un] = some ((cellsM ns).map PyData.int) := rfl
  rw [hi, Option.bind_some, if_pos (by rw [List.length_map]; omega)]
  rw [lc_all (fun d => [.sh (scrD (ns.map PyData.int)), .sh (encPs (plotsM ns)), .sh (.list ((namesM ns).map PyData.str)), .sh (.list ((cellsM ns).map PyData.int)), .un, .un, .un, .un, .un, .un, .un, .sh d, .un, .un, .un, .un]) (fun d => match d with | .int c => encR (rowM (plotsM ns) (namesM ns) c ((cellsM ns).length : Int)) | _ => .none)]
  · rw [List.map_map]
    unfold rowsC
    rw [List.map_map]
    rfl
  · intro d m
    rfl
  · intro d m
    obtain ⟨c, _, rfl⟩ := List.mem_map.mp m
    refine call4_ev (x := .int c) rfl (y := encPs (plotsM ns)) rfl (u := .list ((namesM ns).map PyData.str)) rfl (lenl_ev (ds := (cellsM ns).map PyData.int) rfl) ?_
    rw [List.length_map]
    exact m_row _ _ _ _ (by rw [plots_len]; omega) (by omega) (by omega)
theorem kb6 : kitB "bool" "bool" = some true := by decide +kernel
theorem kb7 : kitB "NoneType" "bool" = some false := by decide +kernel
theorem kb8 : kitB "str" "bool" = some false := by decide +kernel
theorem m_kind (f : Fact) : f__law_kind [encF f] = some (.bool true) := by
  unfold f__law_kind fnD F__law_kind
  have h0 : fEnv 1 [encF f] = [.sh (encF f)] := rfl
  rw [h0]
  have h1 : tE (e1 (gIsi "tuple") (eVarO 0)) [.sh (encF f)] = some true := isi_ev (d := encF f) rfl (by cases f <;> exact isi_tuple _)
  have h2 : eA gLen (aCons (eVarO 0) aNil) [.sh (encF f)] = some (.int 3) := by cases f <;> rfl
  have h3 : tE (e2 gNe (eA gLen (aCons (eVarO 0) aNil)) (eC (.int 3))) [.sh (encF f)] = some false := ne_same h2 rfl rfl (by rw [eqv_int]; simp)
  rw [rl_no (tO_ev (x := false) (y := false) (tN_ev h1) (fun _ => h3))]
  cases f with
  | plot x b =>
    have a1 : e1 (gIsi "bool") (e2 gIx (eVarO 0) (eC (.int 2))) [.sh (encF (.plot x b))] = some (.bool true) := by
      show (kitB "bool" "bool").map PyData.bool = _
      rw [kb6]
      rfl
    have a2 : e2 gEq (e2 gIx (eVarO 0) (eC (.int 0))) (eC (.str "plot")) [.sh (encF (.plot x b))] = some (.bool true) := tv_ev ((eqz_ev (w := "plot") (z := "plot") (ixt_ev (ds := [.str "plot", .str x, .bool b]) (i := ((0 : Nat) : Int)) rfl rfl rfl) rfl (by decide +kernel) (by decide +kernel)).trans (congrArg some (decide_eq_true rfl)))
    rw [rt1_ev (tv_ev (te2r_ev a1 a2 (t := true) rfl))]
    rfl
  | name x w =>
    have a1 : e1 (gIsi "bool") (e2 gIx (eVarO 0) (eC (.int 2))) [.sh (encF (.name x w))] = some (.bool false) := by
      cases w with
      | none =>
        show (kitB "NoneType" "bool").map PyData.bool = _
        rw [kb7]
        rfl
      | some z =>
        show (kitB "str" "bool").map PyData.bool = _
        rw [kb8]
        rfl
    have a2 : e2 gEq (e2 gIx (eVarO 0) (eC (.int 0))) (eC (.str "plot")) [.sh (encF (.name x w))] = some (.bool false) := tv_ev ((eqz_ev (w := "name") (z := "plot") (ixt_ev (ds := [.str "name", .str x, optD w]) (i := ((0 : Nat) : Int)) rfl rfl rfl) rfl (by decide +kernel) (by decide +kernel)).trans (congrArg some (by decide +kernel : decide ((Str.ofString "name") = Str.ofString "plot") = false)))
    rw [rt1_ev (tv_ev (te2r_ev a1 a2 (t := true) rfl))]
    rfl

/-! ### the names met -/
def metR : PL.Row → List Str
  | .lay n _ _ => [n] | .copy n o _ => [n, o] | .same n o => [n, o] | .add n o => [n, o] | .tell n => [n] | _ => []
def insU (l : List Str) (x : Str) : List Str := if x ∈ l then l else l ++ [x]
def metM (rows : List PL.Row) : List Str := rows.foldl (fun l r => (metR r).foldl insU l) []
def dkU (l : List Str) : List (Key × V) := l.map fun x => (kS x, V.bl true)
theorem put_u (l : List Str) (x : Str) : putK (dkU l) (kS x) (.bl true) = dkU (insU l x) := by
  have ha : ((dkU l).any fun kv => decide (kv.1 = kS x)) = decide (x ∈ l) := by
    unfold dkU
    rw [List.any_map, Bool.eq_iff_iff, List.any_eq_true, decide_eq_true_eq]
    constructor
    · rintro ⟨y, my, e⟩
      have e : kS y = kS x := of_decide_eq_true e
      rw [kS_inj] at e
      rw [← e]
      exact my
    · intro m
      exact ⟨x, m, decide_eq_true rfl⟩
  unfold putK insU
  rw [ha]
  by_cases h : x ∈ l
  · rw [if_pos (decide_eq_true h), if_pos h]
    unfold dkU
    rw [List.map_map]
    apply List.map_congr_left
    intro y _
    show (if kS y = kS x then (kS y, V.bl true) else (kS y, V.bl true)) = _
    split <;> rfl
  · rw [if_neg (by rw [decide_eq_false h]; exact Bool.false_ne_true), if_neg h]
    unfold dkU
    rw [List.map_append]
    rfl
theorem insU_len (l : List Str) (x : Str) : (insU l x).length ≤ l.length + 1 := by
  unfold insU
  split
  · omega
  · rw [List.length_append]
    exact Nat.le_refl _
theorem met_len (r : PL.Row) : (metR r).length ≤ 2 := by cases r <;> (unfold metR; first | exact Nat.le_refl _ | (show 1 ≤ 2; omega) | (show 0 ≤ 2; omega))
theorem fold_len : ∀ (xs l : List Str), (xs.foldl insU l).length ≤ l.length + xs.length
  | [], l => by rw [List.foldl_nil]; exact Nat.le_refl _
  | x :: xs, l => by
    rw [List.foldl_cons, List.length_cons]
    have h1 := fold_len xs (insU l x)
    have h2 := insU_len l x
    omega
def kindsR : PL.Row → List Str
  | .open_ _ => ["plot"] | .lay .. => ["name", "plot", "number"] | .copy .. => ["name", "name", "plot"] | .same .. => ["name", "name"] | .add .. => ["name", "name"] | .tell _ => ["name"] | .give _ => ["plot"] | .fork _ => ["place"] | .go _ => ["place"] | .end_ => []
theorem look_shape (r : PL.Row) : lookT tab_SHAPES (wordR r) = some (kindsR r) := by
  cases r with
  | open_ x => exact (by decide +kernel : lookT tab_SHAPES (Str.ofString "open") = some (["plot"] : List Str))
  | lay n p z => exact (by decide +kernel : lookT tab_SHAPES (Str.ofString "lay") = some (["name", "plot", "number"] : List Str))
  | copy n o p => exact (by decide +kernel : lookT tab_SHAPES (Str.ofString "copy") = some (["name", "name", "plot"] : List Str))
  | same n o => exact (by decide +kernel : lookT tab_SHAPES (Str.ofString "same") = some (["name", "name"] : List Str))
  | add n o => exact (by decide +kernel : lookT tab_SHAPES (Str.ofString "add") = some (["name", "name"] : List Str))
  | tell n => exact (by decide +kernel : lookT tab_SHAPES (Str.ofString "tell") = some (["name"] : List Str))
  | give p => exact (by decide +kernel : lookT tab_SHAPES (Str.ofString "give") = some (["plot"] : List Str))
  | fork k => exact (by decide +kernel : lookT tab_SHAPES (Str.ofString "fork") = some (["place"] : List Str))
  | go k => exact (by decide +kernel : lookT tab_SHAPES (Str.ofString "go") = some (["place"] : List Str))
  | end_ => exact (by decide +kernel : lookT tab_SHAPES (Str.ofString "end") = some ([] : List Str))
def partB : PL.Env → Option Out := (sIf (tE (e2 gEq (eVarO 4) (eC (.str "name")))) (sDSet 1 (eVar 3) (eC (.bool true))) sNext)
def rowB : PL.Env → Option Out := (sFor (iZt (aCons (eSlT (eVarO 2) (oSome (eC (.int 1))) oNone) (aCons (eTab tab_SHAPES (e2 gIx (eVarO 2) (eC (.int 0)))) aNil))) (tgT 2 (tgCons (tgN 3) (tgCons (tgN 4) tgNil))) partB)
abbrev EI_ (d : PyData) (l : List Str) (k2 k3 k4 : Sl) : PL.Env := [.sh d, .ob (.dk (dkU l)), k2, k3, k4]
theorem part_name (d : PyData) (l : List Str) (hl : l.length < 50000) (x : Str) (k2 : Sl) : partB (EI_ d l k2 (.sh (.str x)) (.sh (.str "name"))) = some (.nx (EI_ d (insU l x) k2 (.sh (.str x)) (.sh (.str "name")))) := by
  unfold partB
  rw [if_yes ((eqz_ev (w := "name") (z := "name") rfl rfl (by decide +kernel) (by decide +kernel)).trans (congrArg some (decide_eq_true rfl)))]
  show (if (dkU l).length < 50000 then some (Out.nx (List.set _ 1 (.ob (.dk (putK (dkU l) (kS x) (.bl true)))))) else none) = _
  rw [if_pos (by unfold dkU; rw [List.length_map]; exact hl), put_u]
  rfl
theorem part_no (d : PyData) (l : List Str) (k : Str) (hk : PyData.strOk k = true) (hn : decide (k = Str.ofString "name") = false) (k2 k3 : Sl) : partB (EI_ d l k2 k3 (.sh (.str k))) = some (.nx (EI_ d l k2 k3 (.sh (.str k)))) := by
  unfold partB
  rw [if_no ((eqz_ev (w := k) (z := "name") rfl rfl hk (by decide +kernel)).trans (congrArg some hn))]
  rfl
theorem row_turn (d : PyData) (l : List Str) (hl : l.length ≤ 40000) (r : PL.Row) (k3 k4 : Sl) : ∃ j3 j4, rowB (EI_ d l (.sh (encR r)) k3 k4) = some (.nx (EI_ d ((metR r).foldl insU l) (.sh (encR r)) j3 j4)) := by
  have hit : iZt (aCons (eSlT (eVarO 2) (oSome (eC (.int 1))) oNone) (aCons (eTab tab_SHAPES (e2 gIx (eVarO 2) (eC (.int 0)))) aNil)) (EI_ d l (.sh (encR r)) k3 k4) = some (zipD ((rowD r).drop 1) ((kindsR r).map PyData.str)) := by
    have h1 : eSlT (eVarO 2) (oSome (eC (.int 1))) oNone (EI_ d l (.sh (encR r)) k3 k4) = some (.tuple ((rowD r).drop 1)) := by
      unfold eSlT
      show (match encR r with | .tuple ds => some (PyData.tuple (PL.cutD ds (some ((1 : Nat) : Int)) none)) | _ => none) = _
      rw [encR_rowD]
      show some (PyData.tuple (PL.cutD (rowD r) (some ((1 : Nat) : Int)) none)) = _
      rw [cutD_from]
    have h2 : eTab tab_SHAPES (e2 gIx (eVarO 2) (eC (.int 0))) (EI_ d l (.sh (encR r)) k3 k4) = some (.tuple ((kindsR r).map PyData.str)) := by
      unfold eTab
      rw [word_ev (r := r) rfl]
      show (lookT tab_SHAPES (wordR r)).map _ = _
      rw [look_shape]
      rfl
    unfold iZt
    rw [acons_ev h1 (acons_ev h2 anil_ev)]
    rfl
  have g0 : PyData.strOk "plot" = true := by decide +kernel
  have g1 : PyData.strOk "number" = true := by decide +kernel
  have g2 : PyData.strOk "place" = true := by decide +kernel
  have n0 : decide ((Str.ofString "plot") = Str.ofString "name") = false := by decide +kernel
  have n1 : decide ((Str.ofString "number") = Str.ofString "name") = false := by decide +kernel
  have n2 : decide ((Str.ofString "place") = Str.ofString "name") = false := by decide +kernel
  have stepN : ∀ (l : List Str) (x : Str) (rest : List PyData) (k3 k4 : Sl), l.length < 50000 → fGo (tgT 2 (tgCons (tgN 3) (tgCons (tgN 4) tgNil))) partB (.tuple [.str x, .str "name"] :: rest) (EI_ d l (.sh (encR r)) k3 k4) = fGo (tgT 2 (tgCons (tgN 3) (tgCons (tgN 4) tgNil))) partB rest (EI_ d (insU l x) (.sh (encR r)) (.sh (.str x)) (.sh (.str "name"))) := fun l x rest k3 k4 h => fgo_nx (e1 := EI_ d l (.sh (encR r)) (.sh (.str x)) (.sh (.str "name"))) rfl (part_name d l h x _)
  have stepO : ∀ (l : List Str) (y : PyData) (k : Str) (rest : List PyData) (k3 k4 : Sl), PyData.strOk k = true → decide (k = Str.ofString "name") = false → fGo (tgT 2 (tgCons (tgN 3) (tgCons (tgN 4) tgNil))) partB (.tuple [y, .str k] :: rest) (EI_ d l (.sh (encR r)) k3 k4) = fGo (tgT 2 (tgCons (tgN 3) (tgCons (tgN 4) tgNil))) partB rest (EI_ d l (.sh (encR r)) (.sh y) (.sh (.str k))) := fun l y k rest k3 k4 h1 h2 => fgo_nx (e1 := EI_ d l (.sh (encR r)) (.sh y) (.sh (.str k))) rfl (part_no d l k h1 h2 _ _)
  have i1 : ∀ x, (insU l x).length < 50000 := fun x => by have := insU_len l x; omega
  unfold rowB sFor
  rw [hit, Option.bind_some]
  cases r with
  | open_ p => exact ⟨_, _, (stepO l (.str p) "plot" [] k3 k4 g0 n0).trans rfl⟩
  | lay n p z => exact ⟨_, _, (stepN l n [.tuple [.str p, .str "plot"], .tuple [.int z, .str "number"]] k3 k4 (by omega)).trans ((stepO _ (.str p) "plot" _ _ _ g0 n0).trans ((stepO _ (.int z) "number" _ _ _ g1 n1).trans rfl))⟩
  | copy n o p => exact ⟨_, _, (stepN l n [.tuple [.str o, .str "name"], .tuple [.str p, .str "plot"]] k3 k4 (by omega)).trans ((stepN _ o _ _ _ (i1 n)).trans ((stepO _ (.str p) "plot" _ _ _ g0 n0).trans rfl))⟩
  | same n o => exact ⟨_, _, (stepN l n [.tuple [.str o, .str "name"]] k3 k4 (by omega)).trans ((stepN _ o _ _ _ (i1 n)).trans rfl)⟩
  | add n o => exact ⟨_, _, (stepN l n [.tuple [.str o, .str "name"]] k3 k4 (by omega)).trans ((stepN _ o _ _ _ (i1 n)).trans rfl)⟩
  | tell n => exact ⟨_, _, (stepN l n [] k3 k4 (by omega)).trans rfl⟩
  | give p => exact ⟨_, _, (stepO l (.str p) "plot" [] k3 k4 g0 n0).trans rfl⟩
  | fork k => exact ⟨_, _, (stepO l (.int k) "place" [] k3 k4 g2 n2).trans rfl⟩
  | go k => exact ⟨_, _, (stepO l (.int k) "place" [] k3 k4 g2 n2).trans rfl⟩
  | end_ => exact ⟨_, _, rfl⟩
theorem rows_go (d : PyData) : ∀ (rows : List PL.Row) (l : List Str) (k2 k3 k4 : Sl), l.length + 2 * rows.length ≤ 40000 → ∃ j2 j3 j4, fGo (tgN 2) rowB (rows.map encR) (EI_ d l k2 k3 k4) = some (.nx (EI_ d (rows.foldl (fun l r => (metR r).foldl insU l) l) j2 j3 j4))
  | [], l, k2, k3, k4, _ => ⟨k2, k3, k4, rfl⟩
  | r :: rows, l, k2, k3, k4, h => by
    rw [List.length_cons] at h
    obtain ⟨j3, j4, h1⟩ := row_turn d l (by omega) r k3 k4
    have hl := fold_len (metR r) l
    have h2 := met_len r
    obtain ⟨i2, i3, i4, h3⟩ := rows_go d rows ((metR r).foldl insU l) (.sh (encR r)) j3 j4 (by omega)
    refine ⟨i2, i3, i4, ?_⟩
    rw [List.map_cons, fgo_nx (e1 := EI_ d l (.sh (encR r)) k3 k4) rfl h1, h3, List.foldl_cons]
theorem m_names_in (rows : List PL.Row) (hl : rows.length ≤ 1000) : f_names_in [.list (rows.map encR)] = some ((metM rows).map PyData.str) := by
  unfold f_names_in fnN F_names_in
  have h0 : fEnv 5 [.list (rows.map encR)] = [.sh (.list (rows.map encR)), .un, .un, .un, .un] := rfl
  rw [h0, seq_nx (e := EI_ (.list (rows.map encR)) [] .un .un .un) rfl]
  obtain ⟨j2, j3, j4, h⟩ := rows_go (.list (rows.map encR)) rows [] .un .un .un (by show 0 + _ ≤ _; omega)
  have hfor : sFor (iLS (eVar 0)) (tgN 2) rowB (EI_ (.list (rows.map encR)) [] .un .un .un) = some (.nx (EI_ (.list (rows.map encR)) (metM rows) j2 j3 j4)) := h
  have hend : (sSeq (sFor (iLS (eVar 0)) (tgN 2) rowB) (sRetN (nKeys 1))) (EI_ (.list (rows.map encR)) [] .un .un .un) = some (.rtn ((metM rows).map PyData.str)) := by
    rw [seq_nx hfor]
    show some (Out.rtn ((dkU (metM rows)).map fun q => keyP q.1)) = _
    unfold dkU
    rw [List.map_map]
    rfl
  exact congrArg (fun (o : Option Out) => match o with | some (.rtn es) => some es | _ => none) hend
def firstM (ps : List (Str × Option Str)) (rows : List PL.Row) : List Fact := (ps.map fun q => Fact.plot q.1 false) ++ (metM rows).map fun x => .name x none
theorem met_all (rows : List PL.Row) : (metM rows).length ≤ 2 * rows.length := by
  have : ∀ (rows : List PL.Row) (l : List Str), (rows.foldl (fun l r => (metR r).foldl insU l) l).length ≤ l.length + 2 * rows.length := fun rows => by
    induction rows with
    | nil => intro l; exact Nat.le_refl _
    | cons r rows ih =>
      intro l
      rw [List.foldl_cons, List.length_cons]
      have h1 := ih ((metR r).foldl insU l)
      have h2 := fold_len (metR r) l
      have h3 := met_len r
      omega
  have := this rows []
  rw [List.length_nil] at this
  unfold metM
  omega
theorem m_at_first (ps : List (Str × Option Str)) (rows : List PL.Row) (hp : ps.length ≤ 1000) (hl : rows.length ≤ 1000) : f_at_first [encPs ps, .list (rows.map encR)] = some ((firstM ps rows).map encF) := by
  have hml := met_all rows
  unfold f_at_first fnN F_at_first
  have h0 : fEnv 6 [encPs ps, .list (rows.map encR)] = [.sh (encPs ps), .sh (.list (rows.map encR)), .un, .un, .un, .un] := rfl
  rw [h0]
  have h1 : nLc (iLS (eVarO 0)) (tgT 2 (tgCons (tgN 3) (tgCons (tgN 4) tgNil))) (fun _ => some true) (eTup (aCons (eC (.str "plot")) (aCons (eVar 3) (aCons (eC (.bool false)) aNil)))) [3, 4] [.sh (encPs ps), .sh (.list (rows.map encR)), .un, .un, .un, .un] = some ((ps.map fun q => Fact.plot q.1 false).map encF) := by
    have hi : iLS (eVarO 0) [.sh (encPs ps), .sh (.list (rows.map encR)), .un, .un, .un, .un] = some (ps.map encP) := rfl
    unfold nLc
    rw [hi, Option.bind_some, if_pos (by rw [List.length_map]; omega)]
    rw [lc_all (fun d => match d with | .tuple [a, b] => [.sh (encPs ps), .sh (.list (rows.map encR)), .un, .sh a, .sh b, .un] | _ => []) (fun d => match d with | .tuple [a, _] => .tuple [.str "plot", a, .bool false] | _ => .none)]
    · rw [List.map_map, List.map_map]
      rfl
    · intro d m
      obtain ⟨q, _, rfl⟩ := List.mem_map.mp m
      rfl
    · intro d m
      obtain ⟨q, _, rfl⟩ := List.mem_map.mp m
      exact tup_ev (acons_ev (d := .str "plot") rfl (acons_ev (d := .str q.1) rfl (acons_ev (d := .bool false) rfl anil_ev))) (by show 3 ≤ 100000; omega)
  rw [seq_nx (own_nx h1)]
  dsimp only [List.set]
  have h2 : nLc (iLS (eL (fun env => ((aCons (eVar 1) aNil) env).bind fun ds => if ds.length = 1 then f_names_in ds else none))) (tgN 5) (fun _ => some true) (eTup (aCons (eC (.str "name")) (aCons (eVar 5) (aCons (eC .none) aNil)))) [5] [.sh (encPs ps), .sh (.list (rows.map encR)), .sh (.list ((ps.map fun q => Fact.plot q.1 false).map encF)), .un, .un, .un] = some (((metM rows).map fun x => Fact.name x none).map encF) := by
    have hi : iLS (eL (fun env => ((aCons (eVar 1) aNil) env).bind fun ds => if ds.length = 1 then f_names_in ds else none)) [.sh (encPs ps), .sh (.list (rows.map encR)), .sh (.list ((ps.map fun q => Fact.plot q.1 false).map encF)), .un, .un, .un] = some ((metM rows).map PyData.str) := by
      unfold iLS
      rw [callN1_ev (x := .list (rows.map encR)) rfl (m_names_in rows hl)]
      rfl
    unfold nLc
    rw [hi, Option.bind_some, if_pos (by rw [List.length_map]; omega)]
    rw [lc_all (fun d => [.sh (encPs ps), .sh (.list (rows.map encR)), .sh (.list ((ps.map fun q => Fact.plot q.1 false).map encF)), .un, .un, .sh d]) (fun d => .tuple [.str "name", d, .none])]
    · rw [List.map_map, List.map_map]
      rfl
    · intro d m
      rfl
    · intro d m
      exact tup_ev (acons_ev (d := .str "name") rfl (acons_ev (d := d) rfl (acons_ev (d := .none) rfl anil_ev))) (by show 3 ≤ 100000; omega)
  refine Eq.trans (congrArg (fun (o : Option Out) => match o with | some (.rtn es) => some es | _ => none) ((free_ev rfl).trans (rn1_ev (ds := (firstM ps rows).map encF) ?_))) rfl
  dsimp only [List.set]
  unfold nCat
  rw [eL_ev h2]
  show (if ((ps.map fun q => Fact.plot q.1 false).map encF).length + (((metM rows).map fun x => Fact.name x none).map encF).length ≤ 100000 then some _ else none) = _
  rw [if_pos (by rw [List.length_map, List.length_map, List.length_map, List.length_map]; omega)]
  unfold firstM
  rw [List.map_append]
end K06
namespace K06
open PySem L2 PySem.Spec PyProof.Rows PL PR
/-! ### facts compared -/
theorem sb_eq (a b : Bool) : PyData.eqv (.bool a) (.bool b) = decide (a = b) := by cases a <;> cases b <;> rfl
theorem so_eq (a b : Option Str) : PyData.eqv (optD a) (optD b) = decide (a = b) := by
  cases a with
  | none => cases b with
    | none => rfl
    | some y => rfl
  | some x => cases b with
    | none => rfl
    | some y =>
      show PyData.eqv (.str x) (.str y) = _
      rw [eqv_str]
      exact decide_eq_decide.mpr ⟨fun h => by rw [h], fun h => Option.some.inj h⟩
theorem eqv_facts (f g : Fact) : PyData.eqv (encF f) (encF g) = decide (f = g) := by
  have np : decide ((Str.ofString "plot") = Str.ofString "name") = false := by decide +kernel
  have nq : decide ((Str.ofString "name") = Str.ofString "plot") = false := by decide +kernel
  cases f with
  | plot x b => cases g with
    | plot y c =>
      show (PyData.eqv (.str "plot") (.str "plot") && (PyData.eqv (.str x) (.str y) && (PyData.eqv (.bool b) (.bool c) && true))) = _
      rw [eqv_s, eqv_str, sb_eq, Bool.true_and, Bool.and_true, Bool.eq_iff_iff, Bool.and_eq_true, decide_eq_true_eq, decide_eq_true_eq, decide_eq_true_eq]
      exact ⟨fun h => by rw [h.1, h.2], fun h => by cases h; exact ⟨rfl, rfl⟩⟩
    | name y c =>
      show (PyData.eqv (.str "plot") (.str "name") && (PyData.eqv (.str x) (.str y) && (PyData.eqv (.bool b) (optD c) && true))) = _
      rw [eqv_str, np, Bool.false_and]
      exact (decide_eq_false (fun z => by cases z)).symm
  | name x b => cases g with
    | plot y c =>
      show (PyData.eqv (.str "name") (.str "plot") && (PyData.eqv (.str x) (.str y) && (PyData.eqv (optD b) (.bool c) && true))) = _
      rw [eqv_str, nq, Bool.false_and]
      exact (decide_eq_false (fun z => by cases z)).symm
    | name y c =>
      show (PyData.eqv (.str "name") (.str "name") && (PyData.eqv (.str x) (.str y) && (PyData.eqv (optD b) (optD c) && true))) = _
      rw [eqv_s, eqv_str, so_eq, Bool.true_and, Bool.and_true, Bool.eq_iff_iff, Bool.and_eq_true, decide_eq_true_eq, decide_eq_true_eq, decide_eq_true_eq]
      exact ⟨fun h => by rw [h.1, h.2], fun h => by cases h; exact ⟨rfl, rfl⟩⟩
theorem in_fl {neg : Bool} {f : Fact} {l : List Fact} (hf : okF f) (hl : ∀ g ∈ l, okF g) : gInL neg (encF f) (.list (l.map encF)) = some (.bool (if neg then !decide (f ∈ l) else decide (f ∈ l))) := by
  unfold gInL
  show (if SeqAt.shaped (encF f) && SeqAt.shaped (.list (l.map encF)) then some (PyData.bool (if neg then !(l.map encF).any fun z => PyData.eqv z (encF f) else (l.map encF).any fun z => PyData.eqv z (encF f))) else none) = _
  rw [(fit_fact hf).sh (by omega), (fit_facts hl).sh (by omega)]
  have h2 : ((l.map encF).any fun z => PyData.eqv z (encF f)) = decide (f ∈ l) := by
    rw [List.any_map, Bool.eq_iff_iff, List.any_eq_true, decide_eq_true_eq]
    constructor
    · rintro ⟨g, mg, e⟩
      have e : PyData.eqv (encF g) (encF f) = true := e
      rw [eqv_facts] at e
      rw [← of_decide_eq_true e]
      exact mg
    · intro m
      exact ⟨f, m, eqv_fact f⟩
  rw [h2]
  rfl
/-! ### the law -/
abbrev E6 (d0 d2 d3 : PyData) (ps : List (Str × Option Str)) (rows : List PL.Row) (k5 k6 k7 k8 k9 k10 k15 : Sl) : PL.Env := [.sh d0, .sh (encPs ps), .sh d2, .sh d3, .sh (.list (rows.map encR)), k5, k6, k7, k8, k9, k10, .un, .un, .un, .un, k15]
def dueM (ps : List (Str × Option Str)) (l : List Str) : List Fact := (ps.map fun q => Fact.plot q.1 false) ++ l.map fun x => .name x none
def metB : PL.Env → Option Out := (sIf (tE (e2 (gInL true) (eTup (aCons (eC (.str "name")) (aCons (eVar 10) (aCons (eC .none) aNil)))) (eVarO 5))) (sApp 5 (eTup (aCons (eC (.str "name")) (aCons (eVar 10) (aCons (eC .none) aNil))))) sNext)
def rowL : PL.Env → Option Out := (sSeq (sAsg (eL (nLst aNil)) (tgN 9))
    (sSeq (sIf (tE (e2 (gInT false) (e2 gIx (eVarO 6) (eC (.int 0))) (eTup (aCons (eC (.str "lay")) (aCons (eC (.str "tell")) aNil))))) (sAsg (eL (nLst (aCons (e2 gIx (eVarO 6) (eC (.int 1))) aNil))) (tgN 9)) (sIf (tE (e2 (gInT false) (e2 gIx (eVarO 6) (eC (.int 0))) (eTup (aCons (eC (.str "copy")) (aCons (eC (.str "same")) (aCons (eC (.str "add")) aNil)))))) (sAsg (eL (nLst (aCons (e2 gIx (eVarO 6) (eC (.int 1))) (aCons (e2 gIx (eVarO 6) (eC (.int 2))) aNil)))) (tgN 9)) sNext))
    (sFor (iLS (eVar 9)) (tgN 10) metB)))
theorem due_ok {ps : List (Str × Option Str)} (G : PGood ps) {l : List Str} (hl : ∀ x ∈ l, PyData.strOk x = true) : ∀ f ∈ dueM ps l, okF f := by
  intro f m
  rcases List.mem_append.mp m with m | m
  · obtain ⟨q, mq, rfl⟩ := List.mem_map.mp m
    exact G.str (List.mem_map.mpr ⟨q, mq, rfl⟩)
  · obtain ⟨x, mx, rfl⟩ := List.mem_map.mp m
    exact ⟨hl x mx, fun z e => by cases e⟩
theorem met_turn {ps : List (Str × Option Str)} (G : PGood ps) {rows : List PL.Row} (d0 d2 d3 : PyData) (l : List Str) (hl : ∀ x ∈ l, PyData.strOk x = true) (hs : l.length ≤ 40000) (x : Str) (hx : PyData.strOk x = true) (k6 k7 k8 k9 k15 : Sl) :
    metB (E6 d0 d2 d3 ps rows (.own ((dueM ps l).map encF)) k6 k7 k8 k9 (.sh (.str x)) k15) = some (.nx (E6 d0 d2 d3 ps rows (.own ((dueM ps (insU l x)).map encF)) k6 k7 k8 k9 (.sh (.str x)) k15)) := by
  have hpl := G.len
  unfold metB
  have ht : tE (e2 (gInL true) (eTup (aCons (eC (.str "name")) (aCons (eVar 10) (aCons (eC .none) aNil)))) (eVarO 5)) (E6 d0 d2 d3 ps rows (.own ((dueM ps l).map encF)) k6 k7 k8 k9 (.sh (.str x)) k15) = some (!decide (Fact.name x none ∈ dueM ps l)) := te2r_ev (x := encF (.name x none)) (y := .list ((dueM ps l).map encF)) rfl rfl (in_fl (neg := true) ⟨hx, fun z e => by cases e⟩ (due_ok G hl))
  have hmem : Fact.name x none ∈ dueM ps l ↔ x ∈ l := by
    unfold dueM
    constructor
    · intro m
      rcases List.mem_append.mp m with m | m
      · obtain ⟨q, _, e⟩ := List.mem_map.mp m
        cases e
      · obtain ⟨y, my, e⟩ := List.mem_map.mp m
        cases e
        exact my
    · intro m
      exact List.mem_append_right _ (List.mem_map.mpr ⟨x, m, rfl⟩)
  unfold insU
  by_cases h : x ∈ l
  · rw [decide_eq_true (hmem.mpr h)] at ht
    rw [if_no ht, if_pos h]
    rfl
  · rw [decide_eq_false (fun z => h (hmem.mp z))] at ht
    rw [if_yes ht, if_neg h]
    rw [app_nx (ds := (dueM ps l).map encF) rfl (tup_ev (ds := [.str "name", .str x, .none]) rfl (by show 3 ≤ 100000; omega)) (by
      unfold dueM
      rw [List.length_map, List.length_append, List.length_map, List.length_map]
      omega)]
    have : (dueM ps (l ++ [x])).map encF = (dueM ps l).map encF ++ [encF (.name x none)] := by
      unfold dueM
      simp only [List.map_append, List.append_assoc, List.map_cons, List.map_nil]
    rw [this]
    rfl
theorem met_go {ps : List (Str × Option Str)} (G : PGood ps) {rows : List PL.Row} (d0 d2 d3 : PyData) (k6 k7 k8 k9 k15 : Sl) : ∀ (xs l : List Str) (k10 : Sl), (∀ x ∈ l, PyData.strOk x = true) → (∀ x ∈ xs, PyData.strOk x = true) → l.length + xs.length ≤ 40000 → ∃ j10, fGo (tgN 10) metB (xs.map PyData.str) (E6 d0 d2 d3 ps rows (.own ((dueM ps l).map encF)) k6 k7 k8 k9 k10 k15) = some (.nx (E6 d0 d2 d3 ps rows (.own ((dueM ps (xs.foldl insU l)).map encF)) k6 k7 k8 k9 j10 k15)) ∧ ∀ x ∈ xs.foldl insU l, PyData.strOk x = true
  | [], l, k10, hl, _, _ => ⟨k10, rfl, hl⟩
  | x :: xs, l, k10, hl, hx, hs => by
    rw [List.length_cons] at hs
    have h1 := hx x (List.mem_cons_self ..)
    have hl' : ∀ y ∈ insU l x, PyData.strOk y = true := fun y m => by
      unfold insU at m
      split at m
      · exact hl y m
      · rcases List.mem_append.mp m with m | m
        · exact hl y m
        · rw [List.mem_singleton.mp m]
          exact h1
    have hi := insU_len l x
    obtain ⟨j10, h, hk⟩ := met_go G d0 d2 d3 k6 k7 k8 k9 k15 xs (insU l x) (.sh (.str x)) hl' (fun y m => hx y (List.mem_cons_of_mem _ m)) (by omega)
    refine ⟨j10, ?_, hk⟩
    rw [List.map_cons, fgo_nx (e1 := E6 d0 d2 d3 ps rows (.own ((dueM ps l).map encF)) k6 k7 k8 k9 (.sh (.str x)) k15) rfl (met_turn G d0 d2 d3 l hl (by omega) x h1 ..), h, List.foldl_cons]
theorem met_texts {r : PL.Row} (h : ∀ x ∈ textsR r, PyData.strOk x = true) : ∀ x ∈ metR r, PyData.strOk x = true := by
  intro x m
  have h1 : ∀ {a : Str} {l : List Str}, a ∈ a :: l := List.mem_cons_self ..
  have h2 : ∀ {a b : Str} {l : List Str}, b ∈ a :: b :: l := List.mem_cons_of_mem _ (List.mem_cons_self ..)
  cases r with
  | lay n p z => rw [List.mem_singleton.mp m]; exact h _ h1
  | copy n o p =>
    rcases List.mem_cons.mp m with e | m
    · rw [e]; exact h _ h1
    · rw [List.mem_singleton.mp m]; exact h _ h2
  | same n o =>
    rcases List.mem_cons.mp m with e | m
    · rw [e]; exact h _ h1
    · rw [List.mem_singleton.mp m]; exact h _ h2
  | add n o =>
    rcases List.mem_cons.mp m with e | m
    · rw [e]; exact h _ h1
    · rw [List.mem_singleton.mp m]; exact h _ h2
  | tell n => rw [List.mem_singleton.mp m]; exact h _ h1
  | _ => cases m
theorem row_l {ps : List (Str × Option Str)} (G : PGood ps) {rows : List PL.Row} (d0 d2 d3 : PyData) (l : List Str) (hl : ∀ x ∈ l, PyData.strOk x = true) (hs : l.length ≤ 30000) (r : PL.Row) (hr : ∀ x ∈ textsR r, PyData.strOk x = true) (k7 k8 k9 k10 k15 : Sl) :
    ∃ j9 j10, rowL (E6 d0 d2 d3 ps rows (.own ((dueM ps l).map encF)) (.sh (encR r)) k7 k8 k9 k10 k15) = some (.nx (E6 d0 d2 d3 ps rows (.own ((dueM ps ((metR r).foldl insU l)).map encF)) (.sh (encR r)) k7 k8 j9 j10 k15)) ∧ ∀ x ∈ (metR r).foldl insU l, PyData.strOk x = true := by
  unfold rowL
  rw [seq_asg (d := .list []) rfl]
  dsimp only [List.set]
  have hm : sIf (tE (e2 (gInT false) (e2 gIx (eVarO 6) (eC (.int 0))) (eTup (aCons (eC (.str "lay")) (aCons (eC (.str "tell")) aNil))))) (sAsg (eL (nLst (aCons (e2 gIx (eVarO 6) (eC (.int 1))) aNil))) (tgN 9)) (sIf (tE (e2 (gInT false) (e2 gIx (eVarO 6) (eC (.int 0))) (eTup (aCons (eC (.str "copy")) (aCons (eC (.str "same")) (aCons (eC (.str "add")) aNil)))))) (sAsg (eL (nLst (aCons (e2 gIx (eVarO 6) (eC (.int 1))) (aCons (e2 gIx (eVarO 6) (eC (.int 2))) aNil)))) (tgN 9)) sNext) (E6 d0 d2 d3 ps rows (.own ((dueM ps l).map encF)) (.sh (encR r)) k7 k8 (.sh (.list [])) k10 k15) = some (.nx (E6 d0 d2 d3 ps rows (.own ((dueM ps l).map encF)) (.sh (encR r)) k7 k8 (.sh (.list ((metR r).map PyData.str))) k10 k15)) := by
    have t1 : tE (e2 (gInT false) (e2 gIx (eVarO 6) (eC (.int 0))) (eTup (aCons (eC (.str "lay")) (aCons (eC (.str "tell")) aNil)))) (E6 d0 d2 d3 ps rows (.own ((dueM ps l).map encF)) (.sh (encR r)) k7 k8 (.sh (.list [])) k10 k15) = some (decide (kindR r = 1) || decide (kindR r = 5)) := by
      refine (int_ev (neg := false) (x := wordR r) (l := [wtab 1, wtab 5]) (word_ev rfl) rfl).trans (congrArg some ?_)
      rw [if_neg Bool.false_ne_true, ← weq r (j := 1) (by decide), ← weq r (j := 5) (by decide), Bool.eq_iff_iff, decide_eq_true_eq, Bool.or_eq_true, decide_eq_true_eq, decide_eq_true_eq]
      simp
    have t2 : tE (e2 (gInT false) (e2 gIx (eVarO 6) (eC (.int 0))) (eTup (aCons (eC (.str "copy")) (aCons (eC (.str "same")) (aCons (eC (.str "add")) aNil))))) (E6 d0 d2 d3 ps rows (.own ((dueM ps l).map encF)) (.sh (encR r)) k7 k8 (.sh (.list [])) k10 k15) = some (decide (kindR r = 2) || (decide (kindR r = 3) || decide (kindR r = 4))) := by
      refine (int_ev (neg := false) (x := wordR r) (l := [wtab 2, wtab 3, wtab 4]) (word_ev rfl) rfl).trans (congrArg some ?_)
      rw [if_neg Bool.false_ne_true, ← weq r (j := 2) (by decide), ← weq r (j := 3) (by decide), ← weq r (j := 4) (by decide), Bool.eq_iff_iff, decide_eq_true_eq, Bool.or_eq_true, Bool.or_eq_true, decide_eq_true_eq, decide_eq_true_eq, decide_eq_true_eq]
      simp
    cases r with
    | lay n p z => exact (if_yes t1).trans rfl
    | tell n => exact (if_yes t1).trans rfl
    | copy n o p => exact (if_no t1).trans ((if_yes t2).trans rfl)
    | same n o => exact (if_no t1).trans ((if_yes t2).trans rfl)
    | add n o => exact (if_no t1).trans ((if_yes t2).trans rfl)
    | open_ x => exact (if_no t1).trans ((if_no t2).trans rfl)
    | give p => exact (if_no t1).trans ((if_no t2).trans rfl)
    | fork k => exact (if_no t1).trans ((if_no t2).trans rfl)
    | go k => exact (if_no t1).trans ((if_no t2).trans rfl)
    | end_ => exact (if_no t1).trans ((if_no t2).trans rfl)
  rw [seq_nx hm]
  have h2 := met_len r
  obtain ⟨j10, h, hk⟩ := met_go G (rows := rows) d0 d2 d3 (.sh (encR r)) k7 k8 (.sh (.list ((metR r).map PyData.str))) k15 (metR r) l k10 hl (met_texts hr) (by omega)
  exact ⟨_, j10, h, hk⟩
theorem rows_l {ps : List (Str × Option Str)} (G : PGood ps) {rows0 : List PL.Row} (d0 d2 d3 : PyData) (k7 k8 k15 : Sl) : ∀ (rows : List PL.Row) (l : List Str) (k6 k9 k10 : Sl), (∀ x ∈ l, PyData.strOk x = true) → (∀ r ∈ rows, ∀ x ∈ textsR r, PyData.strOk x = true) → l.length + 2 * rows.length ≤ 30000 → ∃ j6 j9 j10, fGo (tgN 6) rowL (rows.map encR) (E6 d0 d2 d3 ps rows0 (.own ((dueM ps l).map encF)) k6 k7 k8 k9 k10 k15) = some (.nx (E6 d0 d2 d3 ps rows0 (.own ((dueM ps (rows.foldl (fun l r => (metR r).foldl insU l) l)).map encF)) j6 k7 k8 j9 j10 k15)) ∧ ∀ x ∈ rows.foldl (fun l r => (metR r).foldl insU l) l, PyData.strOk x = true
  | [], l, k6, k9, k10, hl, _, _ => ⟨k6, k9, k10, rfl, hl⟩
  | r :: rows, l, k6, k9, k10, hl, hr, hs => by
    rw [List.length_cons] at hs
    obtain ⟨j9, j10, h, hk⟩ := row_l G (rows := rows0) d0 d2 d3 l hl (by omega) r (hr r (List.mem_cons_self ..)) k7 k8 k9 k10 k15
    have h1 := fold_len (metR r) l
    have h2 := met_len r
    obtain ⟨i6, i9, i10, h', hk'⟩ := rows_l G d0 d2 d3 k7 k8 k15 rows ((metR r).foldl insU l) (.sh (encR r)) j9 j10 hk (fun q m => hr q (List.mem_cons_of_mem _ m)) (by omega)
    refine ⟨i6, i9, i10, ?_, hk'⟩
    rw [List.map_cons, fgo_nx (e1 := E6 d0 d2 d3 ps rows0 (.own ((dueM ps l).map encF)) (.sh (encR r)) k7 k8 k9 k10 k15) rfl h, h', List.foldl_cons]
def lawE : PL.Env → Option Out := (sSeq (sOwn (nLc (iLS (eVarO 1)) (tgT 2 (tgCons (tgN 13) (tgCons (tgN 14) tgNil))) (fun _ => some true) (eTup (aCons (eC (.str "plot")) (aCons (eVar 13) (aCons (eC (.bool false)) aNil)))) [13, 14]) 5)
    (sSeq (sFor (iLS (eVar 4)) (tgN 6) rowL)
    (sSeq (sAsg (eL (nLst (aCons (eL (nList (aCons (eVarO 1) aNil))) (aCons (eL (nList (aCons (eVarO 4) aNil))) aNil)))) (tgN 7))
    (sSeq (sAsg (eL (fun env => ((aCons (e2 gIx (eVarO 7) (eC (.int 0))) (aCons (e2 gIx (eVarO 7) (eC (.int 1))) aNil)) env).bind fun ds => if ds.length = 2 then f_at_first ds else none)) (tgN 8))
    (sSeq (sIf (tO (tN (tE (e1 (gIsi "list") (eVarO 8)))) (tE (e2 gNe (eL (nLc (iLS (eVarO 8)) (tgN 15) (tN (tE (eA (fun ds => if ds.length = 1 then f__law_kind ds else none) (aCons (eVar 15) aNil)))) (eVar 15) [15])) (eL (nLst aNil))))) (sRet (eC (.bool false))) sNext)
    (sRet (eAndB (e2 gEq (eVarO 8) (eVarO 5)) (e2 gEq (eVarO 7) (eL (nLst (aCons (eVar 1) (aCons (eVar 4) aNil)))))))))))) 
theorem law_e {ps : List (Str × Option Str)} (G : PGood ps) (rows : List PL.Row) (hl : rows.length ≤ 1000) (hr : ∀ r ∈ rows, ∀ x ∈ textsR r, PyData.strOk x = true) (d0 d2 d3 : PyData) (k6 : Sl) : outD (lawE (E6 d0 d2 d3 ps rows .un k6 .un .un .un .un .un)) = some (.bool true) := by
  have hpl := G.len
  unfold lawE
  have h1 : nLc (iLS (eVarO 1)) (tgT 2 (tgCons (tgN 13) (tgCons (tgN 14) tgNil))) (fun _ => some true) (eTup (aCons (eC (.str "plot")) (aCons (eVar 13) (aCons (eC (.bool false)) aNil)))) [13, 14] (E6 d0 d2 d3 ps rows .un k6 .un .un .un .un .un) = some ((dueM ps []).map encF) := by
    have hi : iLS (eVarO 1) (E6 d0 d2 d3 ps rows .un k6 .un .un .un .un .un) = some (ps.map encP) := rfl
    unfold nLc
    rw [hi, Option.bind_some, if_pos (by rw [List.length_map]; omega)]
    rw [lc_all (fun d => match d with | .tuple [a, b] => [.sh d0, .sh (encPs ps), .sh d2, .sh d3, .sh (.list (rows.map encR)), .un, k6, .un, .un, .un, .un, .un, .un, .sh a, .sh b, .un] | _ => []) (fun d => match d with | .tuple [a, _] => .tuple [.str "plot", a, .bool false] | _ => .none)]
    · unfold dueM
      rw [List.map_nil, List.append_nil, List.map_map, List.map_map]
      rfl
    · intro d m
      obtain ⟨q, _, rfl⟩ := List.mem_map.mp m
      rfl
    · intro d m
      obtain ⟨q, _, rfl⟩ := List.mem_map.mp m
      exact tup_ev (acons_ev (d := .str "plot") rfl (acons_ev (d := .str q.1) rfl (acons_ev (d := .bool false) rfl anil_ev))) (by show 3 ≤ 100000; omega)
  rw [seq_nx (own_nx h1)]
  dsimp only [List.set]
  obtain ⟨j6, j9, j10, h, hk⟩ := rows_l G (rows0 := rows) d0 d2 d3 .un .un .un rows [] k6 .un .un (fun x m => by cases m) hr (by show 0 + _ ≤ _; omega)
  have hfor : sFor (iLS (eVar 4)) (tgN 6) rowL (E6 d0 d2 d3 ps rows (.own ((dueM ps []).map encF)) k6 .un .un .un .un .un) = some (.nx (E6 d0 d2 d3 ps rows (.own ((dueM ps (metM rows)).map encF)) j6 .un .un j9 j10 .un)) := h
  refine Eq.trans (congrArg outD (seq_nx hfor)) ?_
  rw [seq_asg (d := .list [encPs ps, .list (rows.map encR)]) rfl]
  dsimp only [List.set]
  have hf := m_at_first ps rows hpl hl
  have hfd : firstM ps rows = dueM ps (metM rows) := rfl
  rw [hfd] at hf
  have hdk := due_ok G hk
  have hml := met_all rows
  have hdl : (dueM ps (metM rows)).length ≤ 5000 := by
    unfold dueM
    rw [List.length_append, List.length_map, List.length_map]
    omega
  have hdk : ∀ f ∈ dueM ps (metM rows), okF f := hdk
  generalize dueM ps (metM rows) = D at hf hdk hdl
  rw [seq_asg (callN2_ev (x := encPs ps) (y := .list (rows.map encR)) (ix_ev (ds := [encPs ps, .list (rows.map encR)]) (i := ((0 : Nat) : Int)) rfl rfl (atI_nat' rfl)) (ix_ev (ds := [encPs ps, .list (rows.map encR)]) (i := ((1 : Nat) : Int)) rfl rfl (atI_nat' rfl)) hf)]
  dsimp only [List.set]
  have hc : nLc (iLS (eVarO 8)) (tgN 15) (tN (tE (eA (fun ds => if ds.length = 1 then f__law_kind ds else none) (aCons (eVar 15) aNil)))) (eVar 15) [15] (E6 d0 d2 d3 ps rows (.own (D.map encF)) j6 (.sh (.list [encPs ps, .list (rows.map encR)])) (.sh (.list (D.map encF))) j9 j10 .un) = some [] := by
    have hi : iLS (eVarO 8) (E6 d0 d2 d3 ps rows (.own (D.map encF)) j6 (.sh (.list [encPs ps, .list (rows.map encR)])) (.sh (.list (D.map encF))) j9 j10 .un) = some (D.map encF) := rfl
    unfold nLc
    rw [hi, Option.bind_some, if_pos (by rw [List.length_map]; omega)]
    rw [lc_gen (fun d => E6 d0 d2 d3 ps rows (.own (D.map encF)) j6 (.sh (.list [encPs ps, .list (rows.map encR)])) (.sh (.list (D.map encF))) j9 j10 (.sh d)) (fun _ => false) (fun d => d)]
    · rw [List.filter_eq_nil_iff.mpr (fun a _ => Bool.false_ne_true)]
      rfl
    · intro d m
      rfl
    · intro d m
      obtain ⟨g, _, rfl⟩ := List.mem_map.mp m
      exact tN_ev (b := true) (vt_ev (call1_ev (x := encF g) rfl (m_kind g)))
    · intro d m h
      cases h
  rw [rl_no (tO_ev (x := false) (y := false) (tN_ev (isi_ev rfl (isi_list _))) (fun _ => ne_same (d := .list []) (eL_ev hc) rfl rfl rfl))]
  have hfr : Fit 2 (.list (rows.map encR)) := fit_list fun d m => by
    obtain ⟨r, mr, rfl⟩ := List.mem_map.mp m
    exact fit_row (hr r mr)
  have hfh : Fit 3 (.list [encPs ps, .list (rows.map encR)]) := fit_list fun d m => by
    simp only [List.mem_cons, List.not_mem_nil, or_false] at m
    rcases m with rfl | rfl
    · exact fit_ps G.ok
    · exact hfr
  have heh : PyData.eqv (.list [encPs ps, .list (rows.map encR)]) (.list [encPs ps, .list (rows.map encR)]) = true := by
    show (PyData.eqvAll (ps.map encP) (ps.map encP) && (PyData.eqvAll (rows.map encR) (rows.map encR) && true)) = true
    rw [eqv_ps, eqv_all eqv_row]
    rfl
  unfold sRet
  rw [andb_ev (x := true) (y := true) (vt_ev (same_ev (d := .list (D.map encF)) rfl rfl ((fit_facts hdk).sh (by omega)) (eqv_all eqv_fact _))) (fun _ => same_ev (d := .list [encPs ps, .list (rows.map encR)]) rfl rfl (hfh.sh (by omega)) heh)]
  rfl
theorem law_math (ns : List Int) (hl : ns.length ≤ 63) : f_law [scrD (ns.map PyData.int)] = some (.bool true) := by
  have hm := manyM_le ns
  have hcl := cells_len ns
  have hrl := rowsC_len ns
  unfold f_law fnD F_law
  have h0 : fEnv 16 [scrD (ns.map PyData.int)] = [.sh (scrD (ns.map PyData.int)), .un, .un, .un, .un, .un, .un, .un, .un, .un, .un, .un, .un, .un, .un, .un] := rfl
  rw [h0, seq_asg (callN1_ev rfl (m_plots ns))]
  dsimp only [List.set]
  rw [seq_asg (callN2_ev (x := scrD (ns.map PyData.int)) (y := encPs (plotsM ns)) rfl rfl (m_names ns))]
  dsimp only [List.set]
  rw [seq_asg (eL_ev (six20_ev rfl))]
  dsimp only [List.set]
  refine Eq.trans (congrArg outD (cells_ev ns _ _ _)) ?_
  refine Eq.trans (congrArg outD (seq_nx (own_nx (rows_ev ns)))) ?_
  refine Eq.trans (congrArg outD (free_ev rfl)) ?_
  dsimp only [List.set]
  have ht := eqi_ev (mod_ev (div_ev (at0_ev (ns := ns) (env := E6 (scrD (ns.map PyData.int)) (.list ((namesM ns).map PyData.str)) (.list ((cellsM ns).map PyData.int)) (plotsM ns) (rowsC ns) .un .un .un .un .un .un .un) rfl) (b := eC (.int 4)) (j := 4) rfl (by omega)) (b := eC (.int 16)) (j := 16) rfl (by omega)) (b := eC (.int 9)) (j := 9) rfl
  by_cases hc : ns.getD 0 0 / 4 % 16 = 9
  · rw [decide_eq_true hc] at ht
    refine Eq.trans (congrArg outD (rl_yes ht)) ?_
    have hfl : nLc (iLS (eVarO 4)) (tgN 6) (tE (e2 (gInT false) (e2 gIx (eVarO 6) (eC (.int 0))) (eTup (aCons (eC (.str "same")) (aCons (eC (.str "add")) (aCons (eC (.str "tell")) (aCons (eC (.str "fork")) (aCons (eC (.str "go")) (aCons (eC (.str "end")) aNil))))))))) (eVar 6) [6] (E6 (scrD (ns.map PyData.int)) (.list ((namesM ns).map PyData.str)) (.list ((cellsM ns).map PyData.int)) [] (rowsC ns) .un .un .un .un .un .un .un) = some (((rowsC ns).filter fun r => decide (wordR r ∈ (["same", "add", "tell", "fork", "go", "end"] : List Str))).map encR) := by
      have hi : iLS (eVarO 4) (E6 (scrD (ns.map PyData.int)) (.list ((namesM ns).map PyData.str)) (.list ((cellsM ns).map PyData.int)) [] (rowsC ns) .un .un .un .un .un .un .un) = some ((rowsC ns).map encR) := rfl
      unfold nLc
      rw [hi, Option.bind_some, if_pos (by rw [List.length_map]; omega)]
      have hgo : ∀ l : List PL.Row, lcGo (tgN 6) (tE (e2 (gInT false) (e2 gIx (eVarO 6) (eC (.int 0))) (eTup (aCons (eC (.str "same")) (aCons (eC (.str "add")) (aCons (eC (.str "tell")) (aCons (eC (.str "fork")) (aCons (eC (.str "go")) (aCons (eC (.str "end")) aNil))))))))) (eVar 6) (wipeE (E6 (scrD (ns.map PyData.int)) (.list ((namesM ns).map PyData.str)) (.list ((cellsM ns).map PyData.int)) [] (rowsC ns) .un .un .un .un .un .un .un) [6]) (l.map encR) = some ((l.filter fun r => decide (wordR r ∈ (["same", "add", "tell", "fork", "go", "end"] : List Str))).map encR) := fun l => by
        induction l with
        | nil => rfl
        | cons r l ih =>
          have he : tE (e2 (gInT false) (e2 gIx (eVarO 6) (eC (.int 0))) (eTup (aCons (eC (.str "same")) (aCons (eC (.str "add")) (aCons (eC (.str "tell")) (aCons (eC (.str "fork")) (aCons (eC (.str "go")) (aCons (eC (.str "end")) aNil)))))))) (E6 (scrD (ns.map PyData.int)) (.list ((namesM ns).map PyData.str)) (.list ((cellsM ns).map PyData.int)) [] (rowsC ns) .un (.sh (encR r)) .un .un .un .un .un) = some (decide (wordR r ∈ (["same", "add", "tell", "fork", "go", "end"] : List Str))) := int_ev (neg := false) (x := wordR r) (l := ["same", "add", "tell", "fork", "go", "end"]) (word_ev rfl) rfl
          show ((tE _ (E6 (scrD (ns.map PyData.int)) (.list ((namesM ns).map PyData.str)) (.list ((cellsM ns).map PyData.int)) [] (rowsC ns) .un (.sh (encR r)) .un .un .un .un .un)).bind fun b => if b then (some (encR r)).bind fun d => (lcGo _ _ _ _ (l.map encR)).map (d :: ·) else lcGo _ _ _ _ (l.map encR)) = _
          rw [he, Option.bind_some, ih]
          by_cases hd : wordR r ∈ (["same", "add", "tell", "fork", "go", "end"] : List Str)
          · rw [List.filter_cons_of_pos (by exact decide_eq_true hd), decide_eq_true hd, if_pos rfl]
            rfl
          · rw [List.filter_cons_of_neg (by simpa using hd), decide_eq_false hd, if_neg Bool.false_ne_true]
      exact hgo _
    have hin : ∀ R, sSeq (sSeq (sAsg (eL (nLst aNil)) (tgN 1))
    (sSeq (sOwn (nLc (iLS (eVarO 4)) (tgN 6) (tE (e2 (gInT false) (e2 gIx (eVarO 6) (eC (.int 0))) (eTup (aCons (eC (.str "same")) (aCons (eC (.str "add")) (aCons (eC (.str "tell")) (aCons (eC (.str "fork")) (aCons (eC (.str "go")) (aCons (eC (.str "end")) aNil))))))))) (eVar 6) [6]) 4)
    (sFree 4 sNext))) R (E6 (scrD (ns.map PyData.int)) (.list ((namesM ns).map PyData.str)) (.list ((cellsM ns).map PyData.int)) (plotsM ns) (rowsC ns) .un .un .un .un .un .un .un)
      = R (E6 (scrD (ns.map PyData.int)) (.list ((namesM ns).map PyData.str)) (.list ((cellsM ns).map PyData.int)) [] ((rowsC ns).filter fun r => decide (wordR r ∈ (["same", "add", "tell", "fork", "go", "end"] : List Str))) .un .un .un .un .un .un .un) := fun R => by
      refine seq_nx ?_
      rw [seq_asg (d := encPs []) rfl]
      dsimp only [List.set]
      rw [seq_nx (own_nx hfl)]
      exact free_ev rfl
    refine Eq.trans (congrArg outD (hin _)) ?_
    refine law_e (ps := []) ⟨rfl, Nat.zero_le _, List.nodup_nil⟩ _ ?_ (fun r m => rowsC_texts ns r (List.mem_filter.mp m).1) _ _ _ .un
    have := List.length_filter_le (fun r : PL.Row => decide (wordR r ∈ (["same", "add", "tell", "fork", "go", "end"] : List Str))) (rowsC ns)
    omega
  · rw [decide_eq_false hc] at ht
    refine Eq.trans (congrArg outD (rl_no ht)) ?_
    exact law_e (pgood ns) (rowsC ns) (by omega) (rowsC_texts ns) _ _ _ .un
end K06
namespace K06
open PySem L2 PySem.Spec PyProof.Rows PL

theorem fnok_weak {P : Program} {w : World} {K : PySem.W.Frag} {mg : Str → Option Value} {base : Heap} {CX : CXT} {k : Nat} {f : Addr} {fd : FuncData} {ps : List Str} {sp sp' : Sp} (F : FnOk P w K mg base CX k f fd ps sp) (h : ∀ vs H Q E, sp' vs H Q E → sp vs H Q E) : FnOk P w K mg base CX k f fd ps sp' :=
  ⟨fun vs H Q E q => F.len vs H Q E (h vs H Q E q), fun A outer s H args us vs Q E hr he hb hv q => F.run A outer s H args us vs Q E hr he hb hv (h vs H Q E q)⟩
def spLaw (K : PySem.W.Frag) : Sp := fun vs H Q _ => ∃ (a : Addr) (ns : List Int), vs = [.ref a] ∧ SqL K H a (ns.map V.int) ∧ ns.length ≤ 63 ∧ ∀ H', Q (.bl true) H'
theorem all_mk {l : PySem.W.OpenLaw} {w : World} {K : PySem.W.Frag} {h : Heap} {mg : Str → Option Value} {fa : Addr} (X : K.In h) (G : h.Ns mainGlobals mg) (hfa : mg "law" = some (.ref fa))
    {od1 od2 od3 od4 od5 od6 od7 od8 od9 an1 an2 an3 an4 an5 an6 an7 an8 an9 : Option Addr} {sl1 sl2 sl3 sl4 sl5 sl6 sl7 sl8 sl9 : Array (Option Value)} {oc1 kV1 dc1 pm1 cd1 ct1 oc2 kV2 dc2 pm2 cd2 ct2 oc3 kV3 dc3 pm3 cd3 ct3 oc4 kV4 dc4 pm4 cd4 ct4 oc5 kV5 dc5 pm5 cd5 ct5 oc6 kV6 dc6 pm6 cd6 ct6 oc7 kV7 dc7 pm7 cd7 ct7 oc8 kV8 dc8 pm8 cd8 ct8 oc9 kV9 dc9 pm9 cd9 ct9 : Value} {f1 f2 f3 f4 f5 f6 f7 f8 f9 : Addr} {pSHAPES : Addr} {esSHAPES : Array DictEntry} {nSHAPES : Nat} {tSHAPES0 : Addr} {odSHAPES0 : Option Addr} {itsSHAPES0 : Array Value} {mSHAPES0 : Nat} {slSHAPES0 : Array (Option Value)} {tSHAPES1 : Addr} {odSHAPES1 : Option Addr} {itsSHAPES1 : Array Value} {mSHAPES1 : Nat} {slSHAPES1 : Array (Option Value)} {tSHAPES2 : Addr} {odSHAPES2 : Option Addr} {itsSHAPES2 : Array Value} {mSHAPES2 : Nat} {slSHAPES2 : Array (Option Value)} {tSHAPES3 : Addr} {odSHAPES3 : Option Addr} {itsSHAPES3 : Array Value} {mSHAPES3 : Nat} {slSHAPES3 : Array (Option Value)} {tSHAPES4 : Addr} {odSHAPES4 : Option Addr} {itsSHAPES4 : Array Value} {mSHAPES4 : Nat} {slSHAPES4 : Array (Option Value)} {tSHAPES5 : Addr} {odSHAPES5 : Option Addr} {itsSHAPES5 : Array Value} {mSHAPES5 : Nat} {slSHAPES5 : Array (Option Value)} {tSHAPES6 : Addr} {odSHAPES6 : Option Addr} {itsSHAPES6 : Array Value} {mSHAPES6 : Nat} {slSHAPES6 : Array (Option Value)} {tSHAPES7 : Addr} {odSHAPES7 : Option Addr} {itsSHAPES7 : Array Value} {mSHAPES7 : Nat} {slSHAPES7 : Array (Option Value)} {tSHAPES8 : Addr} {odSHAPES8 : Option Addr} {itsSHAPES8 : Array Value} {mSHAPES8 : Nat} {slSHAPES8 : Array (Option Value)} {tSHAPES9 : Addr} {odSHAPES9 : Option Addr} {itsSHAPES9 : Array Value} {mSHAPES9 : Nat} {slSHAPES9 : Array (Option Value)}
    (a1 : PySem.W.nsIn K mainGlobals "at_first" = some (some (.ref f1)))
    (l1 : K.lookup f1 = some ⟨oc1, od1, .func (PySem.W.fnOf "at_first" "at_first" (defArgs s_at_first) (defBody s_at_first) (defScope s_at_first) .none kV1 dc1 pm1 an1 cd1 ct1), sl1⟩)
    (c1 : PySem.W.codeIn K cd1 "at_first" = true)
    (k1 : PySem.W.keepIn K (.ref f1) = true)
    (a2 : PySem.W.nsIn K mainGlobals "names_in" = some (some (.ref f2)))
    (l2 : K.lookup f2 = some ⟨oc2, od2, .func (PySem.W.fnOf "names_in" "names_in" (defArgs s_names_in) (defBody s_names_in) (defScope s_names_in) .none kV2 dc2 pm2 an2 cd2 ct2), sl2⟩)
    (c2 : PySem.W.codeIn K cd2 "names_in" = true)
    (k2 : PySem.W.keepIn K (.ref f2) = true)
    (a3 : PySem.W.nsIn K mainGlobals "_law_at" = some (some (.ref f3)))
    (l3 : K.lookup f3 = some ⟨oc3, od3, .func (PySem.W.fnOf "_law_at" "_law_at" (defArgs s__law_at) (defBody s__law_at) (defScope s__law_at) .none kV3 dc3 pm3 an3 cd3 ct3), sl3⟩)
    (c3 : PySem.W.codeIn K cd3 "_law_at" = true)
    (k3 : PySem.W.keepIn K (.ref f3) = true)
    (a4 : PySem.W.nsIn K mainGlobals "_law_called" = some (some (.ref f4)))
    (l4 : K.lookup f4 = some ⟨oc4, od4, .func (PySem.W.fnOf "_law_called" "_law_called" (defArgs s__law_called) (defBody s__law_called) (defScope s__law_called) .none kV4 dc4 pm4 an4 cd4 ct4), sl4⟩)
    (c4 : PySem.W.codeIn K cd4 "_law_called" = true)
    (k4 : PySem.W.keepIn K (.ref f4) = true)
    (a5 : PySem.W.nsIn K mainGlobals "_law_plots" = some (some (.ref f5)))
    (l5 : K.lookup f5 = some ⟨oc5, od5, .func (PySem.W.fnOf "_law_plots" "_law_plots" (defArgs s__law_plots) (defBody s__law_plots) (defScope s__law_plots) .none kV5 dc5 pm5 an5 cd5 ct5), sl5⟩)
    (c5 : PySem.W.codeIn K cd5 "_law_plots" = true)
    (k5 : PySem.W.keepIn K (.ref f5) = true)
    (a6 : PySem.W.nsIn K mainGlobals "_law_names" = some (some (.ref f6)))
    (l6 : K.lookup f6 = some ⟨oc6, od6, .func (PySem.W.fnOf "_law_names" "_law_names" (defArgs s__law_names) (defBody s__law_names) (defScope s__law_names) .none kV6 dc6 pm6 an6 cd6 ct6), sl6⟩)
    (c6 : PySem.W.codeIn K cd6 "_law_names" = true)
    (k6 : PySem.W.keepIn K (.ref f6) = true)
    (a7 : PySem.W.nsIn K mainGlobals "_law_row" = some (some (.ref f7)))
    (l7 : K.lookup f7 = some ⟨oc7, od7, .func (PySem.W.fnOf "_law_row" "_law_row" (defArgs s__law_row) (defBody s__law_row) (defScope s__law_row) .none kV7 dc7 pm7 an7 cd7 ct7), sl7⟩)
    (c7 : PySem.W.codeIn K cd7 "_law_row" = true)
    (k7 : PySem.W.keepIn K (.ref f7) = true)
    (a8 : PySem.W.nsIn K mainGlobals "_law_kind" = some (some (.ref f8)))
    (l8 : K.lookup f8 = some ⟨oc8, od8, .func (PySem.W.fnOf "_law_kind" "_law_kind" (defArgs s__law_kind) (defBody s__law_kind) (defScope s__law_kind) .none kV8 dc8 pm8 an8 cd8 ct8), sl8⟩)
    (c8 : PySem.W.codeIn K cd8 "_law_kind" = true)
    (k8 : PySem.W.keepIn K (.ref f8) = true)
    (a9 : PySem.W.nsIn K mainGlobals "law" = some (some (.ref f9)))
    (l9 : K.lookup f9 = some ⟨oc9, od9, .func (PySem.W.fnOf "law" "law" (defArgs s_law) (defBody s_law) (defScope s_law) .none kV9 dc9 pm9 an9 cd9 ct9), sl9⟩)
    (c9 : PySem.W.codeIn K cd9 "law" = true)
    (k9 : PySem.W.keepIn K (.ref f9) = true)
    (z_bool : PySem.W.nsIn K mainGlobals "bool" = some none)
    (z_isinstance : PySem.W.nsIn K mainGlobals "isinstance" = some none)
    (z_len : PySem.W.nsIn K mainGlobals "len" = some none)
    (z_list : PySem.W.nsIn K mainGlobals "list" = some none)
    (z_range : PySem.W.nsIn K mainGlobals "range" = some none)
    (z_tuple : PySem.W.nsIn K mainGlobals "tuple" = some none)
    (z_zip : PySem.W.nsIn K mainGlobals "zip" = some none)
    (aTSHAPES : PySem.W.nsIn K mainGlobals "SHAPES" = some (some (.ref pSHAPES)))
    (lTSHAPES : K.lookup pSHAPES = some ⟨.type "dict", none, .dict esSHAPES nSHAPES, #[]⟩)
    (dTSHAPES : esSHAPES.toList.map He.keyOf = He.keysIn w.params ["open", "lay", "copy", "same", "add", "tell", "give", "fork", "go", "end"])
    (nTSHAPES0 : PySem.W.nsIn K pSHAPES "open" = some (some (.ref tSHAPES0)))
    (tTSHAPES0 : K.lookup tSHAPES0 = some ⟨.type "tuple", odSHAPES0, .seq itsSHAPES0 mSHAPES0, slSHAPES0⟩)
    (sTSHAPES0 : itsSHAPES0.size ≤ 1000)
    (uTSHAPES0 : He.relAll ((["plot"] : List Str).map V.str) itsSHAPES0.toList = true)
    (nTSHAPES1 : PySem.W.nsIn K pSHAPES "lay" = some (some (.ref tSHAPES1)))
    (tTSHAPES1 : K.lookup tSHAPES1 = some ⟨.type "tuple", odSHAPES1, .seq itsSHAPES1 mSHAPES1, slSHAPES1⟩)
    (sTSHAPES1 : itsSHAPES1.size ≤ 1000)
    (uTSHAPES1 : He.relAll ((["name", "plot", "number"] : List Str).map V.str) itsSHAPES1.toList = true)
    (nTSHAPES2 : PySem.W.nsIn K pSHAPES "copy" = some (some (.ref tSHAPES2)))
    (tTSHAPES2 : K.lookup tSHAPES2 = some ⟨.type "tuple", odSHAPES2, .seq itsSHAPES2 mSHAPES2, slSHAPES2⟩)
    (sTSHAPES2 : itsSHAPES2.size ≤ 1000)
    (uTSHAPES2 : He.relAll ((["name", "name", "plot"] : List Str).map V.str) itsSHAPES2.toList = true)
    (nTSHAPES3 : PySem.W.nsIn K pSHAPES "same" = some (some (.ref tSHAPES3)))
    (tTSHAPES3 : K.lookup tSHAPES3 = some ⟨.type "tuple", odSHAPES3, .seq itsSHAPES3 mSHAPES3, slSHAPES3⟩)
    (sTSHAPES3 : itsSHAPES3.size ≤ 1000)
    (uTSHAPES3 : He.relAll ((["name", "name"] : List Str).map V.str) itsSHAPES3.toList = true)
    (nTSHAPES4 : PySem.W.nsIn K pSHAPES "add" = some (some (.ref tSHAPES4)))
    (tTSHAPES4 : K.lookup tSHAPES4 = some ⟨.type "tuple", odSHAPES4, .seq itsSHAPES4 mSHAPES4, slSHAPES4⟩)
    (sTSHAPES4 : itsSHAPES4.size ≤ 1000)
    (uTSHAPES4 : He.relAll ((["name", "name"] : List Str).map V.str) itsSHAPES4.toList = true)
    (nTSHAPES5 : PySem.W.nsIn K pSHAPES "tell" = some (some (.ref tSHAPES5)))
    (tTSHAPES5 : K.lookup tSHAPES5 = some ⟨.type "tuple", odSHAPES5, .seq itsSHAPES5 mSHAPES5, slSHAPES5⟩)
    (sTSHAPES5 : itsSHAPES5.size ≤ 1000)
    (uTSHAPES5 : He.relAll ((["name"] : List Str).map V.str) itsSHAPES5.toList = true)
    (nTSHAPES6 : PySem.W.nsIn K pSHAPES "give" = some (some (.ref tSHAPES6)))
    (tTSHAPES6 : K.lookup tSHAPES6 = some ⟨.type "tuple", odSHAPES6, .seq itsSHAPES6 mSHAPES6, slSHAPES6⟩)
    (sTSHAPES6 : itsSHAPES6.size ≤ 1000)
    (uTSHAPES6 : He.relAll ((["plot"] : List Str).map V.str) itsSHAPES6.toList = true)
    (nTSHAPES7 : PySem.W.nsIn K pSHAPES "fork" = some (some (.ref tSHAPES7)))
    (tTSHAPES7 : K.lookup tSHAPES7 = some ⟨.type "tuple", odSHAPES7, .seq itsSHAPES7 mSHAPES7, slSHAPES7⟩)
    (sTSHAPES7 : itsSHAPES7.size ≤ 1000)
    (uTSHAPES7 : He.relAll ((["place"] : List Str).map V.str) itsSHAPES7.toList = true)
    (nTSHAPES8 : PySem.W.nsIn K pSHAPES "go" = some (some (.ref tSHAPES8)))
    (tTSHAPES8 : K.lookup tSHAPES8 = some ⟨.type "tuple", odSHAPES8, .seq itsSHAPES8 mSHAPES8, slSHAPES8⟩)
    (sTSHAPES8 : itsSHAPES8.size ≤ 1000)
    (uTSHAPES8 : He.relAll ((["place"] : List Str).map V.str) itsSHAPES8.toList = true)
    (nTSHAPES9 : PySem.W.nsIn K pSHAPES "end" = some (some (.ref tSHAPES9)))
    (tTSHAPES9 : K.lookup tSHAPES9 = some ⟨.type "tuple", odSHAPES9, .seq itsSHAPES9 mSHAPES9, slSHAPES9⟩)
    (sTSHAPES9 : itsSHAPES9.size ≤ 1000)
    (uTSHAPES9 : He.relAll (([] : List Str).map V.str) itsSHAPES9.toList = true) :
    ∃ fd : FuncData, (∀ (s : Shared) (v : Value), BindsTo s fd ⟨[v], []⟩ [("_law_script", v)]) ∧ ∀ base : Heap, K.In base → base.Ns mainGlobals mg → FnOk l.prog w K mg base CX0 3 fa fd ["_law_script"] (spLaw K) := by
  have e := hfa.symm.trans (PySem.W.mg_of X G a9)
  cases e
  have T : Bt mg := ⟨PySem.W.mg_none_of X G z_bool, PySem.W.mg_none_of X G z_isinstance, PySem.W.mg_none_of X G z_len, PySem.W.mg_none_of X G z_list, PySem.W.mg_none_of X G z_range, PySem.W.mg_none_of X G z_tuple, PySem.W.mg_none_of X G z_zip⟩
  have F1 := fun_mk (st := s_at_first) l1 c1 k1
  have b1 := F1.binds (ps := ["plots", "rows"]) fun _ _ _ _ _ _ us hl => match us, hl with | [_, _], _ => rfl
  have F2 := fun_mk (st := s_names_in) l2 c2 k2
  have b2 := F2.binds (ps := ["rows"]) fun _ _ _ _ _ _ us hl => match us, hl with | [_], _ => rfl
  have F3 := fun_mk (st := s__law_at) l3 c3 k3
  have b3 := F3.binds (ps := ["_law_script", "_law_k"]) fun _ _ _ _ _ _ us hl => match us, hl with | [_, _], _ => rfl
  have F4 := fun_mk (st := s__law_called) l4 c4 k4
  have b4 := F4.binds (ps := ["_law_cell", "_law_k", "_law_signs"]) fun _ _ _ _ _ _ us hl => match us, hl with | [_, _, _], _ => rfl
  have F5 := fun_mk (st := s__law_plots) l5 c5 k5
  have b5 := F5.binds (ps := ["_law_script"]) fun _ _ _ _ _ _ us hl => match us, hl with | [_], _ => rfl
  have F6 := fun_mk (st := s__law_names) l6 c6 k6
  have b6 := F6.binds (ps := ["_law_script", "_law_plots_here"]) fun _ _ _ _ _ _ us hl => match us, hl with | [_, _], _ => rfl
  have F7 := fun_mk (st := s__law_row) l7 c7 k7
  have b7 := F7.binds (ps := ["_law_cell", "_law_plots_here", "_law_names_here", "_law_size"]) fun _ _ _ _ _ _ us hl => match us, hl with | [_, _, _, _], _ => rfl
  have F8 := fun_mk (st := s__law_kind) l8 c8 k8
  have b8 := F8.binds (ps := ["_law_fact"]) fun _ _ _ _ _ _ us hl => match us, hl with | [_], _ => rfl
  have F9 := fun_mk (st := s_law) l9 c9 k9
  have b9 := F9.binds (ps := ["_law_script"]) fun _ _ _ _ _ _ us hl => match us, hl with | [_], _ => rfl
  have TB_SHAPES : TabOk K w pSHAPES tab_SHAPES := ⟨fun q m => by
    simp only [tab_SHAPES, List.mem_cons, List.not_mem_nil, or_false] at m
    rcases m with rfl | rfl | rfl | rfl | rfl | rfl | rfl | rfl | rfl | rfl
    · exact tab_at lTSHAPES dTSHAPES nTSHAPES0 tTSHAPES0 sTSHAPES0 uTSHAPES0
    · exact tab_at lTSHAPES dTSHAPES nTSHAPES1 tTSHAPES1 sTSHAPES1 uTSHAPES1
    · exact tab_at lTSHAPES dTSHAPES nTSHAPES2 tTSHAPES2 sTSHAPES2 uTSHAPES2
    · exact tab_at lTSHAPES dTSHAPES nTSHAPES3 tTSHAPES3 sTSHAPES3 uTSHAPES3
    · exact tab_at lTSHAPES dTSHAPES nTSHAPES4 tTSHAPES4 sTSHAPES4 uTSHAPES4
    · exact tab_at lTSHAPES dTSHAPES nTSHAPES5 tTSHAPES5 sTSHAPES5 uTSHAPES5
    · exact tab_at lTSHAPES dTSHAPES nTSHAPES6 tTSHAPES6 sTSHAPES6 uTSHAPES6
    · exact tab_at lTSHAPES dTSHAPES nTSHAPES7 tTSHAPES7 sTSHAPES7 uTSHAPES7
    · exact tab_at lTSHAPES dTSHAPES nTSHAPES8 tTSHAPES8 sTSHAPES8 uTSHAPES8
    · exact tab_at lTSHAPES dTSHAPES nTSHAPES9 tTSHAPES9 sTSHAPES9 uTSHAPES9
    ⟩
  have mT_SHAPES := PySem.W.mg_of X G aTSHAPES
  refine ⟨PySem.W.fnOf "law" "law" (defArgs s_law) (defBody s_law) (defScope s_law) .none kV9 dc9 pm9 an9 cd9 ct9, fun s v => .of_eq rfl, fun base _ _ => ?_⟩
  have Cnames_in : CalN l.prog w K mg base 1 "names_in" 1 ["rows"] f_names_in := ⟨_, _, ok_names_in F2 T TB_SHAPES mT_SHAPES , PySem.W.mg_of X G a2, k2, b2⟩
  have Cat_first : CalN l.prog w K mg base 2 "at_first" 2 ["plots", "rows"] f_at_first := ⟨_, _, ok_at_first F1 T Cnames_in, PySem.W.mg_of X G a1, k1, b1⟩
  have C_law_at : Cal l.prog w K mg base 1 "_law_at" 2 ["_law_script", "_law_k"] f__law_at := ⟨_, _, ok__law_at F3 T , PySem.W.mg_of X G a3, k3, b3⟩
  have C_law_called : Cal l.prog w K mg base 1 "_law_called" 3 ["_law_cell", "_law_k", "_law_signs"] f__law_called := ⟨_, _, ok__law_called F4 T , PySem.W.mg_of X G a4, k4, b4⟩
  have C_law_plots : CalN l.prog w K mg base 2 "_law_plots" 1 ["_law_script"] f__law_plots := ⟨_, _, ok__law_plots F5 T C_law_at C_law_called, PySem.W.mg_of X G a5, k5, b5⟩
  have C_law_names : CalN l.prog w K mg base 2 "_law_names" 2 ["_law_script", "_law_plots_here"] f__law_names := ⟨_, _, ok__law_names F6 T C_law_at C_law_called, PySem.W.mg_of X G a6, k6, b6⟩
  have C_law_row : Cal l.prog w K mg base 1 "_law_row" 4 ["_law_cell", "_law_plots_here", "_law_names_here", "_law_size"] f__law_row := ⟨_, _, ok__law_row F7 T , PySem.W.mg_of X G a7, k7, b7⟩
  have C_law_kind : Cal l.prog w K mg base 1 "_law_kind" 1 ["_law_fact"] f__law_kind := ⟨_, _, ok__law_kind F8 T , PySem.W.mg_of X G a8, k8, b8⟩
  have GL := ok_law F9 T C_law_plots C_law_names C_law_at C_law_row Cat_first C_law_kind
  refine fnok_weak GL fun vs H Q E hq => ?_
  obtain ⟨a, ns, rfl, hS, hlen, k⟩ := hq
  refine ⟨fun _ => false, [scrD (ns.map PyData.int)], .bool true, rfl, (fun _ z => by cases z), .cons (.scr (ex_l vis_no hS)) .nil, law_math ns hlen, fun v H' _ _ r => ?_⟩
  cases r
  exact k H'
theorem walk {l : PySem.W.OpenLaw} {q : Program} {loose : List Str} {XP : (Str → Option Value) → Heap → Prop} {YP : World → Heap → Prop} {d : DefRec} {K : Params → PySem.W.Frag} (hn : l.most = some 63) (hdf : d.params.defaults = [])
    (hY : ∀ (w : World) (h : Heap), YP w h → (K w.params).In h)
    (F : ∀ (w : World) (mg : Str → Option Value) (fa : Addr) (h : Heap), (K w.params).In h → h.Ns mainGlobals mg → mg d.name = some (.ref fa) →
      ∃ fd : FuncData, (∀ (s : Shared) (u : Value), BindsTo s fd ⟨[u], []⟩ [("_law_script", u)]) ∧ ∀ base : Heap, (K w.params).In base → base.Ns mainGlobals mg → FnOk l.prog w (K w.params) mg base CX0 3 fa fd ["_law_script"] (spLaw (K w.params))) :
    PySem.W.WalkO q loose XP YP l.row.toRowW d [] (fun f vs => PySem.call f vs) :=
  L2.walk_of (n := 63) (k := 3) (x := "_law_script") (CX := fun _ => CX0) (sp := fun w => spLaw (K w.params)) hn (by decide) hdf ⟨rfl, by decide, by decide⟩ hY F (fun _ _ a ns hl _ hS => ⟨a, ns, rfl, hS, hl, fun _ => rfl⟩) fun _ _ _ _ _ z => z

end K06

open PySem PySem.W PyProof.Rows in
set_option maxRecDepth 100000 in
set_option maxHeartbeats 0 in
theorem PySem.Challenge.cw_plotfree_k06_facts_at_first_holds : PySem.Challenge.rw_plotfree_k06_facts_at_first.Holds := by
  w_on; o_law; k_head; (case hw => w_witness2)
  k_fill
  refine K06.walk (l := PySem.Challenge.rw_plotfree_k06_facts_at_first) rfl rfl (fun w h Y => PySem.W.kIn_of Y) ?F
  case F =>
    intro w mg fa h KX G hmg
    refine' K06.all_mk KX G hmg ?a1 ?l1 ?c1 ?k1 ?a2 ?l2 ?c2 ?k2 ?a3 ?l3 ?c3 ?k3 ?a4 ?l4 ?c4 ?k4 ?a5 ?l5 ?c5 ?k5 ?a6 ?l6 ?c6 ?k6 ?a7 ?l7 ?c7 ?k7 ?a8 ?l8 ?c8 ?k8 ?a9 ?l9 ?c9 ?k9 ?z_bool ?z_isinstance ?z_len ?z_list ?z_range ?z_tuple ?z_zip ?aTSHAPES ?lTSHAPES ?dTSHAPES ?nTSHAPES0 ?tTSHAPES0 ?sTSHAPES0 ?uTSHAPES0 ?nTSHAPES1 ?tTSHAPES1 ?sTSHAPES1 ?uTSHAPES1 ?nTSHAPES2 ?tTSHAPES2 ?sTSHAPES2 ?uTSHAPES2 ?nTSHAPES3 ?tTSHAPES3 ?sTSHAPES3 ?uTSHAPES3 ?nTSHAPES4 ?tTSHAPES4 ?sTSHAPES4 ?uTSHAPES4 ?nTSHAPES5 ?tTSHAPES5 ?sTSHAPES5 ?uTSHAPES5 ?nTSHAPES6 ?tTSHAPES6 ?sTSHAPES6 ?uTSHAPES6 ?nTSHAPES7 ?tTSHAPES7 ?sTSHAPES7 ?uTSHAPES7 ?nTSHAPES8 ?tTSHAPES8 ?sTSHAPES8 ?uTSHAPES8 ?nTSHAPES9 ?tTSHAPES9 ?sTSHAPES9 ?uTSHAPES9
    (case a1 => k_is)
    (case l1 => k_is)
    (case c1 => k_is)
    (case k1 => k_is)
    (case a2 => k_is)
    (case l2 => k_is)
    (case c2 => k_is)
    (case k2 => k_is)
    (case a3 => k_is)
    (case l3 => k_is)
    (case c3 => k_is)
    (case k3 => k_is)
    (case a4 => k_is)
    (case l4 => k_is)
    (case c4 => k_is)
    (case k4 => k_is)
    (case a5 => k_is)
    (case l5 => k_is)
    (case c5 => k_is)
    (case k5 => k_is)
    (case a6 => k_is)
    (case l6 => k_is)
    (case c6 => k_is)
    (case k6 => k_is)
    (case a7 => k_is)
    (case l7 => k_is)
    (case c7 => k_is)
    (case k7 => k_is)
    (case a8 => k_is)
    (case l8 => k_is)
    (case c8 => k_is)
    (case k8 => k_is)
    (case a9 => k_is)
    (case l9 => k_is)
    (case c9 => k_is)
    (case k9 => k_is)
    (case z_bool => k_is)
    (case z_isinstance => k_is)
    (case z_len => k_is)
    (case z_list => k_is)
    (case z_range => k_is)
    (case z_tuple => k_is)
    (case z_zip => k_is)
    (case aTSHAPES => k_is)
    (case lTSHAPES => k_is)
    (case dTSHAPES => rfl)
    (case nTSHAPES0 => k_is)
    (case tTSHAPES0 => k_is)
    (case sTSHAPES0 => exact Nat.le_of_ble_eq_true rfl)
    (case uTSHAPES0 => rfl)
    (case nTSHAPES1 => k_is)
    (case tTSHAPES1 => k_is)
    (case sTSHAPES1 => exact Nat.le_of_ble_eq_true rfl)
    (case uTSHAPES1 => rfl)
    (case nTSHAPES2 => k_is)
    (case tTSHAPES2 => k_is)
    (case sTSHAPES2 => exact Nat.le_of_ble_eq_true rfl)
    (case uTSHAPES2 => rfl)
    (case nTSHAPES3 => k_is)
    (case tTSHAPES3 => k_is)
    (case sTSHAPES3 => exact Nat.le_of_ble_eq_true rfl)
    (case uTSHAPES3 => rfl)
    (case nTSHAPES4 => k_is)
    (case tTSHAPES4 => k_is)
    (case sTSHAPES4 => exact Nat.le_of_ble_eq_true rfl)
    (case uTSHAPES4 => rfl)
    (case nTSHAPES5 => k_is)
    (case tTSHAPES5 => k_is)
    (case sTSHAPES5 => exact Nat.le_of_ble_eq_true rfl)
    (case uTSHAPES5 => rfl)
    (case nTSHAPES6 => k_is)
    (case tTSHAPES6 => k_is)
    (case sTSHAPES6 => exact Nat.le_of_ble_eq_true rfl)
    (case uTSHAPES6 => rfl)
    (case nTSHAPES7 => k_is)
    (case tTSHAPES7 => k_is)
    (case sTSHAPES7 => exact Nat.le_of_ble_eq_true rfl)
    (case uTSHAPES7 => rfl)
    (case nTSHAPES8 => k_is)
    (case tTSHAPES8 => k_is)
    (case sTSHAPES8 => exact Nat.le_of_ble_eq_true rfl)
    (case uTSHAPES8 => rfl)
    (case nTSHAPES9 => k_is)
    (case tTSHAPES9 => k_is)
    (case sTSHAPES9 => exact Nat.le_of_ble_eq_true rfl)
    (case uTSHAPES9 => rfl)
