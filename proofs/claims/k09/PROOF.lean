import PyProof.Rows.All
import Wide.All
import OpenK.AllK
import Wide.FinOn
import HandS.ForMost
import HandS.Deep
import HandS.IsInst
import HandS.Style
import HandS.TupAny
import HandS.Zip
import HandS.Flow
import HandS.Conv
import HandS.SortInts
import HandS.DictComp
import PySem.Challenge.RW_plotfree_k09_facts_keep_step
set_option Elab.async false
set_option linter.all false
set_option maxRecDepth 100000
/-! Values as data: what a reading gives, as a plain function of the data that the names hold. -/
namespace PL
open PySem L2

/-! ### heaps -/
def Ex (H L : Hp) : Prop := ∀ p u, H p = some u → L p = some u
theorem Ex.refl (H : Hp) : Ex H H := fun _ _ k => k
theorem Ex.trans {A B C : Hp} (h : Ex A B) (k : Ex B C) : Ex A C := fun p u e => k p u (h p u e)
theorem Ex.new {H : Hp} {p : Addr} {o : HO} (z : H p = none) : Ex H (upd H p o) := fun q u e => by
  rw [upd_ne (ne_of_none e z)]
  exact e
theorem Ex.free {H H' : Hp} {p : Addr} (e : Ex H H') (h : H' p = none) : H p = none := by
  cases h1 : H p with
  | none => rfl
  | some o =>
    rw [e p o h1] at h
    cases h
theorem ex_rd {A B : Hp} {p : Addr} {u : HO} (k : Ex A B) (h : Rd A p u) : Rd B p u := h.elim (fun z => .inl (k _ _ z)) fun ⟨o, z⟩ => .inr ⟨o, k _ _ z⟩
theorem ex_l {K : PySem.W.Frag} {A B : Hp} {p : Addr} {xs : List V} (k : Ex A B) (h : SqL K A p xs) : SqL K B p xs := h.elim (fun z => .inl (ex_rd k z)) .inr
theorem ex_t {K : PySem.W.Frag} {A B : Hp} {p : Addr} {xs : List V} (k : Ex A B) (h : SqT K A p xs) : SqT K B p xs := h.elim (fun z => .inl (ex_rd k z)) .inr
abbrev Hid := Addr → Bool
/-- the heap without what is hidden -/
def vis (O : Hid) (H : Hp) : Hp := fun a => if O a = true then none else H a
theorem vis_le {O : Hid} {H : Hp} : Ex (vis O H) H := fun a o h => by
  unfold vis at h
  split at h
  · cases h
  · exact h
theorem vis_mono {O : Hid} {H H' : Hp} (e : Ex H H') : Ex (vis O H) (vis O H') := fun a o h => by
  unfold vis at h ⊢
  split at h
  · cases h
  · rename_i q
    rw [if_neg q]
    exact e a o h
theorem vis_at {O : Hid} {H : Hp} {a : Addr} {o : HO} (n : O a = false) (h : H a = some o) : vis O H a = some o := by
  unfold vis
  rw [if_neg (by rw [n]; decide)]
  exact h
/-- one more is hidden -/
def hid (O : Hid) (p : Addr) : Hid := fun a => O a || decide (a = p)
theorem hid_le {O : Hid} {p : Addr} {H : Hp} : Ex (vis (hid O p) H) (vis O H) := fun a o h => by
  unfold vis hid at *
  by_cases q : O a = true
  · rw [q] at h
    simp at h
  · rw [if_neg q]
    have q2 : O a = false := by simpa using q
    rw [q2] at h
    by_cases e : a = p
    · simp [e] at h
    · simpa [e] using h
theorem vis_hid {O : Hid} {p : Addr} {H H' : Hp} (hp : H p = none) (e : Ex H H') : Ex (vis O H) (vis (hid O p) H') := fun a o h => by
  have h1 := vis_le a o h
  have ne : a ≠ p := ne_of_none h1 hp
  unfold vis hid at *
  by_cases q : O a = true
  · rw [if_pos q] at h
    cases h
  · have q2 : O a = false := by simpa using q
    rw [q2]
    simpa [ne] using e a o h1
theorem vis_upd {O : Hid} {p : Addr} {H : Hp} {o : HO} (hp : O p = true) : vis O (upd H p o) = vis O H := by
  funext a
  unfold vis
  by_cases q : O a = true
  · rw [if_pos q, if_pos q]
  · rw [if_neg q, if_neg q, upd_ne]
    intro e
    rw [e] at q
    exact q hp
theorem upd_mono {H H' : Hp} {p : Addr} {o : HO} (e : Ex H H') : Ex (upd H p o) (upd H' p o) := fun a u h => by
  by_cases q : a = p
  · rw [q, upd_same] at h
    rw [q, upd_same]
    exact h
  · rw [upd_ne q] at h
    rw [upd_ne q]
    exact e a u h

/-! ### values and data -/
/-- a dict of texts, as data -/
def kvP (ks : List Str) (ds : List PyData) : List (PyData × PyData) := (ks.zip ds).map fun q => (.str q.1, q.2)
def kvV (ks : List Str) (vs : List V) : List (Key × V) := (ks.zip vs).map fun q => (Sum.inr q.1, q.2)
mutual
inductive Rp (K : PySem.W.Frag) (H : Hp) : V → PyData → Prop
  | non : Rp K H .non .none
  | bl (b : Bool) : Rp K H (.bl b) (.bool b)
  | int (i : Int) : Rp K H (.int i) (.int i)
  | str (x : Str) : Rp K H (.str x) (.str x)
  | lst {a : Addr} {xs : List V} {ds : List PyData} : H a = some (.lst xs) → RpAll K H xs ds → Rp K H (.ref a) (.list ds)
  | tup {a : Addr} {xs : List V} {ds : List PyData} : SqT K H a xs → RpAll K H xs ds → Rp K H (.ref a) (.tuple ds)
  | dic {a : Addr} {ks : List Str} {xs : List V} {ds : List PyData} : H a = some (.dK (kvV ks xs)) → ks.length = xs.length → RpAll K H xs ds → Rp K H (.ref a) (.dict (kvP ks ds))
  | scr {a : Addr} {ns : List Int} : SqL K H a (ns.map V.int) → Rp K H (.ref a) (.dict [(.none, .list (ns.map PyData.int))])
inductive RpAll (K : PySem.W.Frag) (H : Hp) : List V → List PyData → Prop
  | nil : RpAll K H [] []
  | cons {v : V} {vs : List V} {d : PyData} {ds : List PyData} : Rp K H v d → RpAll K H vs ds → RpAll K H (v :: vs) (d :: ds)
end
section
variable {K : PySem.W.Frag} {H H' : Hp}
mutual
theorem Rp.mono (e : Ex H H') : ∀ {v : V} {d : PyData}, Rp K H v d → Rp K H' v d
  | _, _, .non => .non
  | _, _, .bl b => .bl b
  | _, _, .int i => .int i
  | _, _, .str x => .str x
  | _, _, .lst h a => .lst (e _ _ h) (RpAll.mono e a)
  | _, _, .tup h a => .tup (ex_t e h) (RpAll.mono e a)
  | _, _, .dic h l a => .dic (e _ _ h) l (RpAll.mono e a)
  | _, _, .scr h => .scr (ex_l e h)
theorem RpAll.mono (e : Ex H H') : ∀ {vs : List V} {ds : List PyData}, RpAll K H vs ds → RpAll K H' vs ds
  | _, _, .nil => .nil
  | _, _, .cons h t => .cons (Rp.mono e h) (RpAll.mono e t)
end
theorem canLayAll_cons {d : PyData} {ds : List PyData} : PyData.canLayAll0 (d :: ds) = (PyData.canLay0 d && PyData.canLayAll0 ds) := rfl
mutual
theorem Rp.dp : ∀ {v : V} {d : PyData}, Rp K H v d → d.canLay0 = true → Dp K H v d
  | _, _, .non, _ => .non
  | _, _, .bl b, _ => .bl b
  | _, _, .int i, _ => .int i
  | _, _, .str x, _ => .str x
  | _, _, .lst h a, c => .lst (SqL.of h) (RpAll.dp a c)
  | _, _, .tup h a, c => .tup h (RpAll.dp a c)
  | _, _, .scr h, c => by cases c
theorem RpAll.dp : ∀ {vs : List V} {ds : List PyData}, RpAll K H vs ds → PyData.canLayAll0 ds = true → DpAll K H vs ds
  | _, _, .nil, _ => .nil
  | _, _, .cons h t, c => by
    rw [canLayAll_cons, Bool.and_eq_true] at c
    exact .cons (Rp.dp h c.1) (RpAll.dp t c.2)
end
theorem RpAll.length : ∀ {vs : List V} {ds : List PyData}, RpAll K H vs ds → vs.length = ds.length
  | _, _, .nil => rfl
  | _, _, .cons _ t => congrArg Nat.succ (RpAll.length t)
theorem RpAll.get : ∀ {vs : List V} {ds : List PyData} {i : Nat} {d : PyData}, RpAll K H vs ds → ds[i]? = some d → ∃ v, vs[i]? = some v ∧ Rp K H v d
  | _, _, _, _, .nil, e => by simp at e
  | _, _, 0, _, .cons h _, e => by
    simp at e
    subst e
    exact ⟨_, rfl, h⟩
  | _, _, i + 1, _, .cons _ t, e => RpAll.get (i := i) t (by simpa using e)
theorem RpAll.get' : ∀ {vs : List V} {ds : List PyData} {i : Nat} {v : V}, RpAll K H vs ds → vs[i]? = some v → ∃ d, ds[i]? = some d ∧ Rp K H v d
  | _, _, _, _, .nil, e => by simp at e
  | _, _, 0, _, .cons h _, e => by
    simp at e
    subst e
    exact ⟨_, rfl, h⟩
  | _, _, i + 1, _, .cons _ t, e => RpAll.get' (i := i) t (by simpa using e)
theorem RpAll.append : ∀ {vs ws : List V} {ds es : List PyData}, RpAll K H vs ds → RpAll K H ws es → RpAll K H (vs ++ ws) (ds ++ es)
  | _, _, _, _, .nil, t => t
  | _, _, _, _, .cons h t, u => .cons h (RpAll.append t u)
theorem RpAll.take : ∀ {vs : List V} {ds : List PyData} (n : Nat), RpAll K H vs ds → RpAll K H (vs.take n) (ds.take n)
  | _, _, 0, _ => .nil
  | _, _, _ + 1, .nil => .nil
  | _, _, n + 1, .cons h t => .cons h (RpAll.take n t)
theorem RpAll.drop : ∀ {vs : List V} {ds : List PyData} (n : Nat), RpAll K H vs ds → RpAll K H (vs.drop n) (ds.drop n)
  | _, _, 0, r => r
  | _, _, _ + 1, .nil => .nil
  | _, _, n + 1, .cons _ t => RpAll.drop n t
theorem RpAll.reverse : ∀ {vs : List V} {ds : List PyData}, RpAll K H vs ds → RpAll K H vs.reverse ds.reverse
  | _, _, .nil => .nil
  | _, _, .cons h t => by
    rw [List.reverse_cons, List.reverse_cons]
    exact (RpAll.reverse t).append (.cons h .nil)
theorem RpAll.ints : ∀ (ns : List Int), RpAll K H (ns.map V.int) (ns.map PyData.int)
  | [] => .nil
  | n :: ns => .cons (.int n) (RpAll.ints ns)
theorem RpAll.strs : ∀ (ns : List Str), RpAll K H (ns.map V.str) (ns.map PyData.str)
  | [] => .nil
  | n :: ns => .cons (.str n) (RpAll.strs ns)
def cutD (xs : List PyData) (lo hi : Option Int) : List PyData := (xs.drop (HT.sIx xs.length 0 lo)).take (HT.sIx xs.length xs.length hi - HT.sIx xs.length 0 lo)
theorem RpAll.cut {vs : List V} {ds : List PyData} (lo hi : Option Int) (h : RpAll K H vs ds) : RpAll K H (cutV vs lo hi) (cutD ds lo hi) := by
  unfold cutV cutD
  rw [h.length]
  exact (h.drop _).take _
theorem RpAll.at_ {vs : List V} {ds : List PyData} {i : Int} {d : PyData} (h : RpAll K H vs ds) (e : atI ds i = some d) : ∃ v, atI vs i = some v ∧ Rp K H v d := by
  unfold atI at *
  rw [h.length]
  cases q : ixN ds.length i with
  | none =>
    rw [q] at e
    cases e
  | some j =>
    rw [q] at e
    exact h.get e

/-! ### an operand: what stands outside of the hidden, or a hidden list whose items do -/
/-- lists and dicts shown again -/
def unl (O : Hid) (H : Hp) : Hid := fun a => O a && !(match H a with | some (.lst _) => true | some (.dK _) => true | _ => false)
theorem unl_le {O : Hid} {H : Hp} : Ex (vis O H) (vis (unl O H) H) := fun b o hb => by
  have h1 := vis_le b o hb
  refine vis_at ?_ h1
  cases z : O b with
  | false => unfold unl; rw [z]; rfl
  | true =>
    unfold vis at hb
    rw [if_pos z] at hb
    cases hb
theorem unl_ex {O : Hid} {H H' : Hp} (e : Ex H H') : Ex (vis (unl O H) H) (vis (unl O H') H') := fun b o hb => by
  have h1 := vis_le b o hb
  have hn : unl O H b = false := by
    cases z : unl O H b with
    | false => rfl
    | true =>
      unfold vis at hb
      rw [if_pos z] at hb
      cases hb
  refine vis_at ?_ (e b o h1)
  unfold unl at hn ⊢
  rw [e b o h1]
  rw [h1] at hn
  exact hn
/-- an operand: seen, or a hidden list, or a hidden dict with all that it holds -/
def Opd (K : PySem.W.Frag) (O : Hid) (H : Hp) (v : V) (d : PyData) : Prop :=
  Rp K (vis O H) v d ∨ (∃ a vs ds, v = .ref a ∧ H a = some (.lst vs) ∧ RpAll K (vis O H) vs ds ∧ d = .list ds) ∨ ∃ kvs, d = .dict kvs ∧ Rp K (vis (unl O H) H) v d
variable {O : Hid} {v : V} {d : PyData}
theorem Opd.mono (e : Ex H H') (h : Opd K O H v d) : Opd K O H' v d := by
  rcases h with h | ⟨a, vs, ds, rfl, h, r, rfl⟩ | ⟨kvs, hd, h⟩
  · exact .inl (h.mono (vis_mono e))
  · exact .inr (.inl ⟨a, vs, ds, rfl, e _ _ h, r.mono (vis_mono e), rfl⟩)
  · exact .inr (.inr ⟨kvs, hd, h.mono (unl_ex e)⟩)
theorem Opd.rp (h : Opd K O H v d) : Rp K H v d := by
  rcases h with h | ⟨a, vs, ds, rfl, h, r, rfl⟩ | ⟨kvs, hd, h⟩
  · exact h.mono vis_le
  · exact .lst h (r.mono vis_le)
  · exact h.mono vis_le
theorem Opd.int {i : Int} (h : Opd K O H v (.int i)) : v = .int i := by
  cases h.rp
  rfl
theorem Opd.bl {b : Bool} (h : Opd K O H v (.bool b)) : v = .bl b := by
  cases h.rp
  rfl
theorem Opd.str {z : Str} (h : Opd K O H v (.str z)) : v = .str z := by
  cases h.rp
  rfl
theorem Opd.lst {ds : List PyData} (h : Opd K O H v (.list ds)) : ∃ a vs, v = .ref a ∧ H a = some (.lst vs) ∧ RpAll K (vis O H) vs ds := by
  rcases h with h | ⟨a, vs, es, rfl, h, r, q⟩ | ⟨kvs, hd, h⟩
  · cases h with
    | lst h r => exact ⟨_, _, rfl, vis_le _ _ h, r⟩
  · cases q
    exact ⟨a, vs, rfl, h, r⟩
  · cases hd
theorem Opd.tup {ds : List PyData} (h : Opd K O H v (.tuple ds)) : ∃ a vs, v = .ref a ∧ SqT K H a vs ∧ RpAll K (vis O H) vs ds := by
  rcases h with h | ⟨a, vs, es, rfl, h, r, q⟩ | ⟨kvs, hd, h⟩
  · cases h with
    | tup h r => exact ⟨_, _, rfl, ex_t vis_le h, r⟩
  · cases q
  · cases hd
theorem kvP_ne {ks : List Str} {ds : List PyData} {d : PyData} {r : List (PyData × PyData)} (h : kvP ks ds = (.none, d) :: r) : False := by
  cases ks with
  | nil => cases h
  | cons k ks =>
    cases ds with
    | nil => cases h
    | cons e ds =>
      injection h with h1 _
      injection h1 with h1 _
      cases h1
/-- the script -/
def scrD (ns : List PyData) : PyData := .dict [(.none, .list ns)]
theorem Opd.scr {ds : List PyData} (o : Opd K O H v (.dict [(.none, .list ds)])) : ∃ (a : Addr) (ns : List Int), v = .ref a ∧ SqL K H a (ns.map V.int) ∧ ds = ns.map PyData.int := by
  have h := o.rp
  clear o
  generalize hd : (PyData.dict [(.none, .list ds)]) = d at h
  cases h with
  | @scr a ns k =>
    injection hd with hd
    injection hd with hd _
    injection hd with _ hd
    injection hd with hd
    exact ⟨a, ns, rfl, k, hd⟩
  | dic h l r =>
    injection hd with hd
    exact (kvP_ne hd.symm).elim
  | _ => cases hd
end

end PL
/-! The objects that a frame may hold hidden, by their plain states. -/
namespace PL
open PySem L2
/-- a Store's state: the chains of its plots, what is open and its number, how many were opened, what was given back and told, which value each name holds, the values (plot, opening, number) -/
structure SM where
  chains : List (Str × List Str)
  opens : List (Str × Int)
  opened : Int
  given : List Int
  told : List Int
  held : List (Str × Nat)
  vals : List (Str × Int × Int)
/-- the law's own state -/
structure LS where
  opn : List (Str × Int)
  held : List (Str × Nat)
  worth : List (Int × Int)
  told : List Int
  given : List Int
  many : Int
  /-- where it lies, if that is known -/
  here : Option Addr
inductive ObS where
  | st (C CV : Addr) (S : SM)
  | ls (S : LS)
def kS (x : Str) : Key := Sum.inr x
def stF (at_ ag ac ao ah : Addr) (n : Int) : List (Str × V) := [("told", .ref at_), ("opened", .int n), ("given", .ref ag), ("_chains", .ref ac), ("_openings", .ref ao), ("_held", .ref ah)]
def vaF (v : Str × Int × Int) : List (Str × V) := [("plot", .str v.1), ("opening", .int v.2.1), ("number", .int v.2.2)]
/-- list by list: at the i-th address the i-th list of texts -/
inductive ListsAt (H : Hp) : List Addr → List (List Str) → Prop
  | nil : ListsAt H [] []
  | cons {a as xs xss} : H a = some (.lst (xs.map V.str)) → ListsAt H as xss → ListsAt H (a :: as) (xs :: xss)
inductive ValsAt (H : Hp) (CV : Addr) : List (Addr × Addr) → List (Str × Int × Int) → Prop
  | nil : ValsAt H CV [] []
  | cons {a as v vs} : H a.1 = some (.ins CV a.2 (vaF v)) → H a.2 = some (.own a.1) → ValsAt H CV as vs → ValsAt H CV (a :: as) (v :: vs)
inductive PairsAt (H : Hp) : List Addr → List (Int × Int) → Prop
  | nil : PairsAt H [] []
  | cons {a as v vs} : H a = some (.lst [.int v.1, .int v.2]) → PairsAt H as vs → PairsAt H (a :: as) (v :: vs)
def zipK (ks : List Str) (as : List Addr) : List (Key × V) := (ks.zip as).map fun p => (kS p.1, V.ref p.2)
structure StAt (H : Hp) (C CV p dx at_ ag ac ao ah : Addr) (cas : List Addr) (vas : List (Addr × Addr)) (S : SM) : Prop where
  hp : H p = some (.ins C dx (stF at_ ag ac ao ah S.opened))
  hdx : H dx = some (.own p)
  ht : H at_ = some (.lst (S.told.map V.int))
  hg : H ag = some (.lst (S.given.map V.int))
  hc : H ac = some (.dK (zipK (S.chains.map (·.1)) cas))
  hcs : ListsAt H cas (S.chains.map (·.2))
  ho : H ao = some (.dK (S.opens.map fun q => (kS q.1, V.int q.2)))
  hh : H ah = some (.dK (S.held.map fun q => (kS q.1, V.ref ((vas.map (·.1)).getD q.2 0))))
  hv : ValsAt H CV vas S.vals
  hr : ∀ q ∈ S.held, q.2 < S.vals.length
def stFp (p dx at_ ag ac ao ah : Addr) (cas : List Addr) (vas : List (Addr × Addr)) : List Addr := p :: dx :: at_ :: ag :: ac :: ao :: ah :: (cas ++ (vas.map (·.1) ++ vas.map (·.2)))
structure LsAt (K : PySem.W.Frag) (H B : Hp) (p a1 a2 a3 a4 a5 : Addr) (was : List Addr) (os : List V) (S : LS) : Prop where
  hp : H p = some (.dK [(kS "open", .ref a1), (kS "held", .ref a2), (kS "worth", .ref a3), (kS "told", .ref a4), (kS "given", .ref a5), (kS "many", .int S.many)])
  h1 : H a1 = some (.lst os)
  hos : RpAll K B os (S.opn.map fun q => .tuple [.str q.1, .int q.2])
  h2 : H a2 = some (.dK (S.held.map fun q => (kS q.1, V.int (q.2 : Int))))
  h3 : H a3 = some (.lst (was.map V.ref))
  hw : PairsAt H was S.worth
  h4 : H a4 = some (.lst (S.told.map V.int))
  h5 : H a5 = some (.lst (S.given.map V.int))
  ha : ∀ q, S.here = some q → p = q
def lsFp (p a1 a2 a3 a4 a5 : Addr) (was : List Addr) : List Addr := p :: a1 :: a2 :: a3 :: a4 :: a5 :: was
/-- the object at v, its cells fp in H, what it shares in B -/
def Ob0 (K : PySem.W.Frag) (v : V) (fp : List Addr) (H B : Hp) : ObS → Prop
  | .st C CV S => ∃ p dx at_ ag ac ao ah cas vas, v = .ref p ∧ fp = stFp p dx at_ ag ac ao ah cas vas ∧ StAt H C CV p dx at_ ag ac ao ah cas vas S
  | .ls S => ∃ p a1 a2 a3 a4 a5 was os, v = .ref p ∧ fp = lsFp p a1 a2 a3 a4 a5 was ∧ LsAt K H B p a1 a2 a3 a4 a5 was os S
theorem Ob0.mono {K : PySem.W.Frag} {v : V} {fp : List Addr} {H B B' : Hp} {s : ObS} (e : Ex B B') (h : Ob0 K v fp H B s) : Ob0 K v fp H B' s := by
  cases s with
  | st C CV S => exact h
  | ls S =>
    obtain ⟨p, a1, a2, a3, a4, a5, was, os, h1, h2, h3⟩ := h
    exact ⟨p, a1, a2, a3, a4, a5, was, os, h1, h2, ⟨h3.hp, h3.h1, h3.hos.mono e, h3.h2, h3.h3, h3.hw, h3.h4, h3.h5, h3.ha⟩⟩
/-- H at fp alone -/
def rst (fp : List Addr) (H : Hp) : Hp := fun a => if a ∈ fp then H a else none
def ObR (K : PySem.W.Frag) (v : V) (fp : List Addr) (H B : Hp) (s : ObS) : Prop := fp.Nodup ∧ (∀ a ∈ fp, H a ≠ none) ∧ Ob0 K v fp (rst fp H) B s
theorem rst_some {fp : List Addr} {H : Hp} {a : Addr} {o : HO} (h : rst fp H a = some o) : a ∈ fp ∧ H a = some o := by
  unfold rst at h
  split at h
  · exact ⟨by assumption, h⟩
  · cases h
theorem rst_at {fp : List Addr} {H : Hp} {a : Addr} {o : HO} (m : a ∈ fp) (h : H a = some o) : rst fp H a = some o := by
  unfold rst
  rw [if_pos m]
  exact h
theorem ObR.loc {K : PySem.W.Frag} {v : V} {fp : List Addr} {H H' B : Hp} {s : ObS} (h : ObR K v fp H B s) (e : ∀ a ∈ fp, H' a = H a) : ObR K v fp H' B s := by
  obtain ⟨nd, h1, h2⟩ := h
  refine ⟨nd, fun a m => by rw [e a m]; exact h1 a m, ?_⟩
  have : rst fp H' = rst fp H := by
    funext a
    unfold rst
    by_cases m : a ∈ fp
    · rw [if_pos m, if_pos m, e a m]
    · rw [if_neg m, if_neg m]
  rw [this]
  exact h2
theorem ObR.ex {K : PySem.W.Frag} {v : V} {fp : List Addr} {H H' B B' : Hp} {s : ObS} (h : ObR K v fp H B s) (e : Ex H H') (eb : Ex B B') : ObR K v fp H' B' s := by
  have h' := h.loc (H' := H') fun a m => by
    cases q : H a with
    | none => exact absurd q (h.2.1 a m)
    | some o => exact e a o q
  exact ⟨h'.1, h'.2.1, h'.2.2.mono eb⟩
end PL
namespace PL
open PySem L2

/-! ### what the names hold -/
inductive Sl where
  | un | sh (d : PyData) | own (ds : List PyData) | any | ob (s : ObS)
abbrev Env := List Sl
/-- fp: the hidden cells that the slot is alone in holding -/
def SlOk (K : PySem.W.Frag) (base : Hp) (O : Hid) (H : Hp) (x : Option V) (fp : List Addr) : Sl → Prop
  | .un => x = none ∧ fp = []
  | .sh d => (∃ v, x = some v ∧ Rp K (vis O H) v d) ∧ fp = []
  | .own ds => ∃ a vs, x = some (.ref a) ∧ fp = [a] ∧ O a = true ∧ base a = none ∧ H a = some (.lst vs) ∧ RpAll K (vis O H) vs ds
  | .any => fp = []
  | .ob s => ∃ v, x = some v ∧ (∀ a ∈ fp, O a = true ∧ base a = none) ∧ ObR K v fp H (vis O H) s
structure Sat0 (K : PySem.W.Frag) (base : Hp) (O0 O : Hid) (σ : L2.St) (H : Hp) (env : Env) (fps : Nat → List Addr) : Prop where
  ex : Ex base H
  new : ∀ a, O a = true → O0 a = true ∨ base a = none
  b0 : ∀ a, O0 a = true → base a ≠ none
  sub : ∀ a, O0 a = true → O a = true
  all : ∀ a, O a = true → H a ≠ none
  len : σ.length = env.length
  sl : ∀ (i : Nat) (x : Option V) (s : Sl), σ[i]? = some x → env[i]? = some s → SlOk K base O H x (fps i) s
  out : ∀ i, env.length ≤ i → fps i = []
  sep : ∀ (i j : Nat) (a : Addr), i ≠ j → a ∈ fps i → a ∈ fps j → False
def Sat (K : PySem.W.Frag) (base : Hp) (O0 O : Hid) (σ : L2.St) (H : Hp) (env : Env) : Prop := ∃ fps, Sat0 K base O0 O σ H env fps
section
variable {K : PySem.W.Frag} {base : Hp} {O0 O : Hid} {σ : L2.St} {H H' : Hp} {env : Env}
theorem Sat.ex (S : Sat K base O0 O σ H env) : Ex base H := S.choose_spec.ex
theorem Sat.new (S : Sat K base O0 O σ H env) : ∀ a, O a = true → O0 a = true ∨ base a = none := S.choose_spec.new
theorem Sat.b0 (S : Sat K base O0 O σ H env) : ∀ a, O0 a = true → base a ≠ none := S.choose_spec.b0
theorem Sat.sub (S : Sat K base O0 O σ H env) : ∀ a, O0 a = true → O a = true := S.choose_spec.sub
theorem Sat.all (S : Sat K base O0 O σ H env) : ∀ a, O a = true → H a ≠ none := S.choose_spec.all
theorem Sat.len (S : Sat K base O0 O σ H env) : σ.length = env.length := S.choose_spec.len
/-- a slot's word where the hidden cells stand and the rest grows -/
theorem SlOk.step {O' : Hid} {x : Option V} {fp : List Addr} {s : Sl} (h : SlOk K base O H x fp s) (ev : Ex (vis O H) (vis O' H')) (ef : ∀ a ∈ fp, H' a = H a) (eo : ∀ a ∈ fp, O' a = true) : SlOk K base O' H' x fp s := by
  cases s with
  | un => exact h
  | any => exact h
  | sh d =>
    obtain ⟨⟨v, q, r⟩, e⟩ := h
    exact ⟨⟨v, q, r.mono ev⟩, e⟩
  | own ds =>
    obtain ⟨a, vs, q, rfl, o, b, h, r⟩ := h
    exact ⟨a, vs, q, rfl, eo a (List.mem_singleton.mpr rfl), b, by rw [ef a (List.mem_singleton.mpr rfl)]; exact h, r.mono ev⟩
  | ob s =>
    obtain ⟨v, q, o, r⟩ := h
    have r2 := r.loc ef
    exact ⟨v, q, fun a m => ⟨eo a m, (o a m).2⟩, r2.1, r2.2.1, r2.2.2.mono ev⟩
theorem SlOk.cells {x : Option V} {fp : List Addr} {s : Sl} (h : SlOk K base O H x fp s) : ∀ a ∈ fp, O a = true ∧ base a = none := by
  intro a m
  cases s with
  | un => rw [h.2] at m; cases m
  | any => rw [show fp = [] from h] at m; cases m
  | sh d => rw [h.2] at m; cases m
  | own ds =>
    obtain ⟨b, vs, q, rfl, o, bn, h, r⟩ := h
    rw [List.mem_singleton.mp m]
    exact ⟨o, bn⟩
  | ob s =>
    obtain ⟨v, q, o, r⟩ := h
    exact o a m
theorem Sat0.cells {fps : Nat → List Addr} (S : Sat0 K base O0 O σ H env fps) (i : Nat) : ∀ a ∈ fps i, O a = true ∧ base a = none := by
  intro a m
  by_cases hi : i < env.length
  · have hs : i < σ.length := by rw [S.len]; exact hi
    exact (S.sl i _ _ (List.getElem?_eq_getElem hs) (List.getElem?_eq_getElem hi)).cells a m
  · rw [S.out i (by omega)] at m
    cases m
theorem keeps {a : Addr} (al : H a ≠ none) (e : Ex H H') : H' a = H a := by
  cases q : H a with
  | none => exact absurd q al
  | some o => exact e a o q
theorem Sat.mono (e : Ex H H') (S : Sat K base O0 O σ H env) : Sat K base O0 O σ H' env := by
  obtain ⟨fps, S⟩ := S
  refine ⟨fps, S.ex.trans e, S.new, S.b0, S.sub, fun a h q => S.all a h (e.free q), S.len, fun i x s h1 h2 => (S.sl i x s h1 h2).step (vis_mono e) (fun a m => keeps (S.all a (S.cells i a m).1) e) fun a m => (S.cells i a m).1, S.out, S.sep⟩
theorem Sat.at_ (S : Sat K base O0 O σ H env) {i : Nat} {s : Sl} (h : env[i]? = some s) : ∃ x fp, σ[i]? = some x ∧ SlOk K base O H x fp s := by
  obtain ⟨fps, S⟩ := S
  have hi : i < σ.length := by rw [S.len]; exact (List.getElem?_eq_some_iff.mp h).1
  exact ⟨σ[i], fps i, List.getElem?_eq_getElem hi, S.sl i _ s (List.getElem?_eq_getElem hi) h⟩
def fpSet (fps : Nat → List Addr) (i : Nat) (fp : List Addr) : Nat → List Addr := fun j => if j = i then fp else fps j
/-- slot i gets another thing x; what is hidden, the heap may change, but not at other slots' cells -/
theorem Sat0.put {O' : Hid} {fps : Nat → List Addr} {i : Nat} {x : Option V} {fp : List Addr} {s : Sl} (S : Sat0 K base O0 O σ H env fps)
    (ex : Ex base H') (ev : Ex (vis O H) (vis O' H')) (new : ∀ a, O' a = true → O0 a = true ∨ base a = none) (sub : ∀ a, O0 a = true → O' a = true) (all : ∀ a, O' a = true → H' a ≠ none)
    (keep : ∀ j, j ≠ i → ∀ a ∈ fps j, H' a = H a ∧ O' a = true ∧ a ∉ fp) (hs : SlOk K base O' H' x fp s) (hi : i < env.length) : Sat0 K base O0 O' (σ.set i x) H' (env.set i s) (fpSet fps i fp) := by
  refine ⟨ex, new, S.b0, sub, all, by rw [List.length_set, List.length_set, S.len], fun j y z h1 h2 => ?_, fun j hj => ?_, fun j k a n h1 h2 => ?_⟩
  · unfold fpSet
    by_cases e : j = i
    · subst e
      rw [if_pos rfl]
      rw [List.getElem?_set_self (by rw [S.len]; exact hi)] at h1
      rw [List.getElem?_set_self hi] at h2
      cases h1
      cases h2
      exact hs
    · rw [if_neg e]
      rw [List.getElem?_set_ne (fun q => e q.symm)] at h1 h2
      exact (S.sl j y z h1 h2).step ev (fun a m => (keep j e a m).1) fun a m => (keep j e a m).2.1
  · rw [List.length_set] at hj
    unfold fpSet
    rw [if_neg (by omega)]
    exact S.out j hj
  · unfold fpSet at h1 h2
    by_cases e : j = i
    · subst e
      rw [if_pos rfl] at h1
      rw [if_neg (fun q => n q.symm)] at h2
      exact (keep k (fun q => n q.symm) a h2).2.2 h1
    · rw [if_neg e] at h1
      by_cases e2 : k = i
      · rw [if_pos e2] at h2
        exact (keep j e a h1).2.2 h2
      · rw [if_neg e2] at h2
        exact S.sep j k a n h1 h2
theorem set_out {α : Type} {l : List α} {i : Nat} {x : α} (h : ¬ i < l.length) : l.set i x = l := List.set_eq_of_length_le (by omega)
/-- one slot is set to a thing that is not hidden -/
theorem Sat.set {i : Nat} {v : V} {d : PyData} (S : Sat K base O0 O σ H env) (r : Rp K (vis O H) v d) : Sat K base O0 O (σ.set i (some v)) H (env.set i (.sh d)) := by
  obtain ⟨fps, S⟩ := S
  by_cases hi : i < env.length
  · exact ⟨_, S.put (O' := O) (H' := H) (fp := []) S.ex (Ex.refl _) S.new S.sub S.all (fun j n a m => ⟨rfl, (S.cells j a m).1, fun q => nomatch q⟩) ⟨⟨v, rfl, r⟩, rfl⟩ hi⟩
  · rw [set_out hi, set_out (by rw [S.len]; exact hi)]
    exact ⟨fps, S⟩
theorem Sat.un (S : Sat K base O0 O σ H env) (i : Nat) : Sat K base O0 O (σ.set i none) H (env.set i .un) := by
  obtain ⟨fps, S⟩ := S
  by_cases hi : i < env.length
  · exact ⟨_, S.put (O' := O) (H' := H) (fp := []) S.ex (Ex.refl _) S.new S.sub S.all (fun j n a m => ⟨rfl, (S.cells j a m).1, fun q => nomatch q⟩) ⟨rfl, rfl⟩ hi⟩
  · rw [set_out hi, set_out (by rw [S.len]; exact hi)]
    exact ⟨fps, S⟩
/-- a new list becomes hidden, slot i holds it -/
theorem Sat.setOwn {i : Nat} {p : Addr} {vs : List V} {ds : List PyData} (S : Sat K base O0 O σ H env) (hp : H p = none) (e : Ex H H') (h : H' p = some (.lst vs)) (r : RpAll K (vis (hid O p) H') vs ds) :
    Sat K base O0 (hid O p) (σ.set i (some (.ref p))) H' (env.set i (.own ds)) := by
  obtain ⟨fps, S⟩ := S
  have bp : base p = none := S.ex.free hp
  have hO : ∀ a, O a = true → hid O p a = true := fun a q => by unfold hid; rw [q]; rfl
  have hpp : hid O p p = true := by unfold hid; simp
  have np : ∀ j, ∀ a ∈ fps j, a ≠ p := fun j a m q => S.all a (S.cells j a m).1 (q ▸ hp)
  have new : ∀ a, hid O p a = true → O0 a = true ∨ base a = none := fun a q => by
    unfold hid at q
    by_cases qa : O a = true
    · exact S.new a qa
    · have : a = p := by simpa [qa] using q
      rw [this]
      exact .inr bp
  have all : ∀ a, hid O p a = true → H' a ≠ none := fun a q z => by
    unfold hid at q
    by_cases qa : O a = true
    · exact S.all a qa (e.free z)
    · have : a = p := by simpa [qa] using q
      rw [this, h] at z
      cases z
  by_cases hi : i < env.length
  · refine ⟨_, S.put (O' := hid O p) (H' := H') (fp := [p]) (S.ex.trans e) (vis_hid hp e) new (fun a q => hO a (S.sub a q)) all (fun j n a m => ⟨keeps (S.all a (S.cells j a m).1) e, hO a (S.cells j a m).1, fun q => np j a m (List.mem_singleton.mp q)⟩) ⟨p, vs, rfl, rfl, hpp, bp, h, r⟩ hi⟩
  · rw [set_out hi, set_out (by rw [S.len]; exact hi)]
    exact ⟨fps, S.ex.trans e, new, S.b0, fun a q => hO a (S.sub a q), all, S.len, fun j x s h1 h2 => (S.sl j x s h1 h2).step (vis_hid hp e) (fun a m => keeps (S.all a (S.cells j a m).1) e) fun a m => hO a (S.cells j a m).1, S.out, S.sep⟩
/-- the hidden list of slot i is changed -/
theorem Sat.mut {i : Nat} {a : Addr} {vs : List V} {ds es : List PyData} (S : Sat K base O0 O σ H env) (hi : env[i]? = some (.own ds)) (ha : σ[i]? = some (some (.ref a))) (r : RpAll K (vis O H) vs es) :
    vis O (upd H a (.lst vs)) = vis O H ∧ Sat K base O0 O σ (upd H a (.lst vs)) (env.set i (.own es)) := by
  obtain ⟨fps, S⟩ := S
  obtain ⟨b, ws, e1, ef, oa, ba, h, _⟩ := S.sl i _ _ ha hi
  cases e1
  have hv : vis O (upd H a (.lst vs)) = vis O H := vis_upd oa
  have hil : i < env.length := (List.getElem?_eq_some_iff.mp hi).1
  have na : ∀ j, j ≠ i → ∀ b ∈ fps j, b ≠ a := fun j n b m q => S.sep j i b n m (by rw [ef, q]; exact List.mem_singleton.mpr rfl)
  have es_ : σ.set i (some (.ref a)) = σ := by
    apply List.ext_getElem?
    intro k
    by_cases q : i = k
    · subst q
      rw [List.getElem?_set_self (by rw [S.len]; exact hil), ha]
    · rw [List.getElem?_set_ne q]
  refine ⟨hv, fpSet fps i [a], ?_⟩
  have g := S.put (O' := O) (H' := upd H a (.lst vs)) (fp := [a]) (i := i) (x := some (.ref a)) (s := .own es) (fun b o q => by rw [upd_ne (ne_of_none q ba)]; exact S.ex b o q) (by rw [hv]; exact Ex.refl _) S.new S.sub
    (fun b q z => by
      by_cases e : b = a
      · rw [e, upd_same] at z
        cases z
      · rw [upd_ne e] at z
        exact S.all b q z)
    (fun j n b m => ⟨upd_ne (na j n b m), (S.cells j b m).1, fun q => na j n b m (List.mem_singleton.mp q)⟩) ⟨a, vs, rfl, rfl, oa, ba, upd_same, by rw [hv]; exact r⟩ hil
  rw [es_] at g
  exact g
/-- a new thing at D, hidden, no slot's -/
theorem Sat.hide {D : Addr} (S : Sat K base O0 O σ H env) (hD : H D = none) (e : Ex H H') (h : H' D ≠ none) : Sat K base O0 (hid O D) σ H' env := by
  obtain ⟨fps, S⟩ := S
  have bp : base D = none := S.ex.free hD
  have hO : ∀ a, O a = true → hid O D a = true := fun a q => by unfold hid; rw [q]; rfl
  refine ⟨fps, S.ex.trans e, fun a q => ?_, S.b0, fun a q => hO a (S.sub a q), fun a q z => ?_, S.len, fun j x s h1 h2 => (S.sl j x s h1 h2).step (vis_hid hD e) (fun a m => keeps (S.all a (S.cells j a m).1) e) fun a m => hO a (S.cells j a m).1, S.out, S.sep⟩
  · unfold hid at q
    by_cases qa : O a = true
    · exact S.new a qa
    · have : a = D := by simpa [qa] using q
      rw [this]
      exact .inr bp
  · unfold hid at q
    by_cases qa : O a = true
    · exact S.all a qa (e.free z)
    · have : a = D := by simpa [qa] using q
      rw [this] at z
      exact h z
/-- a list that was to change stays as it is from here on -/
theorem Sat.let_ {i : Nat} {ds : List PyData} (S : Sat K base O0 O σ H env) (hi : env[i]? = some (.own ds)) : ∃ O', Ex (vis O H) (vis O' H) ∧ Sat K base O0 O' σ H (env.set i (.sh (.list ds))) := by
  obtain ⟨fps, S⟩ := S
  have hil : i < env.length := (List.getElem?_eq_some_iff.mp hi).1
  have hs : i < σ.length := by rw [S.len]; exact hil
  obtain ⟨a, vs, hx, ef, oa, ba, h1, r⟩ := S.sl i _ _ (List.getElem?_eq_getElem hs) hi
  have n0 : O0 a = false := by
    cases q : O0 a with
    | false => rfl
    | true => exact absurd ba (S.b0 a q)
  let O' : Hid := fun b => O b && !decide (b = a)
  have hO : ∀ b, O' b = true → O b = true := fun b q => by
    have this : (O b && !decide (b = a)) = true := q
    exact (Bool.and_eq_true_iff.mp this).1
  have hv : Ex (vis O H) (vis O' H) := fun b o q => by
    unfold vis at *
    by_cases z : O b = true
    · rw [if_pos z] at q
      cases q
    · rw [if_neg z] at q
      rw [if_neg (fun y => z (hO b y))]
      exact q
  have ha : O' a = false := by simp [O']
  have na : ∀ j, j ≠ i → ∀ b ∈ fps j, b ≠ a := fun j n b m q => S.sep j i b n m (by rw [ef, q]; exact List.mem_singleton.mpr rfl)
  have es_ : σ.set i (some (.ref a)) = σ := by
    apply List.ext_getElem?
    intro k
    by_cases q : i = k
    · subst q
      rw [List.getElem?_set_self hs, List.getElem?_eq_getElem hs, hx]
    · rw [List.getElem?_set_ne q]
  have g := S.put (O' := O') (H' := H) (fp := []) (i := i) (x := some (.ref a)) (s := .sh (.list ds)) S.ex hv (fun b q => S.new b (hO b q)) (fun b q => by
      have ne : b ≠ a := fun z => by
        rw [z, n0] at q
        cases q
      simp [O', S.sub b q, ne]) (fun b q => S.all b (hO b q))
    (fun j n b m => ⟨rfl, by simp [O', (S.cells j b m).1, na j n b m], fun q => nomatch q⟩) ⟨⟨_, rfl, .lst (vis_at ha h1) (r.mono hv)⟩, rfl⟩ hil
  rw [es_] at g
  exact ⟨O', hv, _, g⟩
end
end PL
namespace PL
open PySem L2

/-! ### what a reading gives -/
def DenP (K : PySem.W.Frag) (te : TE) (f : Env → Option PyData) : Prop := ∀ base O0 O σ H env d, Sat K base O0 O σ H env → f env = some d → ∀ Q : VK, (∀ v H', Ex H H' → Rp K (vis O H') v d → Q v H') → te σ H Q
def Den (K : PySem.W.Frag) (te : TE) (f : Env → Option PyData) : Prop := ∀ base O0 O σ H env d, Sat K base O0 O σ H env → f env = some d → ∀ Q : VK, (∀ v H', Ex H H' → Opd K O H' v d → Q v H') → te σ H Q
def DenN (K : PySem.W.Frag) (te : TE) (f : Env → Option (List PyData)) : Prop := ∀ base O0 O σ H env ds, Sat K base O0 O σ H env → f env = some ds → ∀ Q : VK, (∀ p vs H', H p = none → Ex H H' → H' p = some (.lst vs) → RpAll K (vis (hid O p) H') vs ds → Q (.ref p) H') → te σ H Q
def DenT (K : PySem.W.Frag) (tt : TT) (f : Env → Option Bool) : Prop := ∀ base O0 O σ H env b, Sat K base O0 O σ H env → f env = some b → ∀ Q : Bool → Hp → Prop, (∀ H', Ex H H' → Q b H') → tt σ H Q
inductive OpdAll (K : PySem.W.Frag) (O : Hid) (H : Hp) : List V → List PyData → Prop
  | nil : OpdAll K O H [] []
  | cons {v vs d ds} : Opd K O H v d → OpdAll K O H vs ds → OpdAll K O H (v :: vs) (d :: ds)
def DenA (K : PySem.W.Frag) (ta : TA) (f : Env → Option (List PyData)) : Prop := ∀ base O0 O σ H env ds, Sat K base O0 O σ H env → f env = some ds → ∀ Q : List V → Hp → Prop, (∀ vs H', Ex H H' → OpdAll K O H' vs ds → Q vs H') → ta σ H Q
def DenAP (K : PySem.W.Frag) (ta : TA) (f : Env → Option (List PyData)) : Prop := ∀ base O0 O σ H env ds, Sat K base O0 O σ H env → f env = some ds → ∀ Q : List V → Hp → Prop, (∀ vs H', Ex H H' → RpAll K (vis O H') vs ds → Q vs H') → ta σ H Q
def DenO (K : PySem.W.Frag) (to : TO) (f : Env → Option (Option Int)) : Prop := ∀ base O0 O σ H env o, Sat K base O0 O σ H env → f env = some o → ∀ Q : Option Int → Hp → Prop, (∀ H', Ex H H' → Q o H') → to σ H Q
theorem OpdAll.mono {K : PySem.W.Frag} {O : Hid} {H H' : Hp} (e : Ex H H') : ∀ {vs ds}, OpdAll K O H vs ds → OpdAll K O H' vs ds
  | _, _, .nil => .nil
  | _, _, .cons h t => .cons (h.mono e) (t.mono e)

/-! ### plain functions of the data of the names -/
def eVar (i : Nat) : Env → Option PyData := fun env => match env[i]? with
  | some (.sh d) => some d
  | _ => none
def eVarO (i : Nat) : Env → Option PyData := fun env => match env[i]? with
  | some (.sh d) => some d
  | some (.own ds) => some (.list ds)
  | _ => none
def eC (d : PyData) : Env → Option PyData := fun _ => some d
def e1 (g : PyData → Option PyData) (fa : Env → Option PyData) : Env → Option PyData := fun env => (fa env).bind g
def e2 (g : PyData → PyData → Option PyData) (fa fb : Env → Option PyData) : Env → Option PyData := fun env => (fa env).bind fun x => (fb env).bind fun y => g x y
def eA (g : List PyData → Option PyData) (fa : Env → Option (List PyData)) : Env → Option PyData := fun env => (fa env).bind g
def eL (f : Env → Option (List PyData)) : Env → Option PyData := fun env => (f env).map PyData.list
def aNil : Env → Option (List PyData) := fun _ => some []
def aCons (f : Env → Option PyData) (r : Env → Option (List PyData)) : Env → Option (List PyData) := fun env => (f env).bind fun d => (r env).bind fun ds => some (d :: ds)
def short (ds : List PyData) : Option (List PyData) := if ds.length ≤ 100000 then some ds else none
def eTup (f : Env → Option (List PyData)) : Env → Option PyData := fun env => (f env).bind fun ds => (short ds).map PyData.tuple
def nLst (f : Env → Option (List PyData)) : Env → Option (List PyData) := fun env => (f env).bind short
def eIf (t : Env → Option Bool) (a b : Env → Option PyData) : Env → Option PyData := fun env => (t env).bind fun k => if k then a env else b env
def asB : PyData → Option Bool
  | .bool b => some b
  | _ => none
def tE (f : Env → Option PyData) : Env → Option Bool := fun env => (f env).bind asB
def tA (a b : Env → Option Bool) : Env → Option Bool := fun env => (a env).bind fun k => if k then b env else some false
def tO (a b : Env → Option Bool) : Env → Option Bool := fun env => (a env).bind fun k => if k then some true else b env
def tN (a : Env → Option Bool) : Env → Option Bool := fun env => (a env).map (!·)
def eAndB (a b : Env → Option PyData) : Env → Option PyData := fun env => (tE a env).bind fun k => if k then b env else some (.bool false)
def eOrB (a b : Env → Option PyData) : Env → Option PyData := fun env => (tE a env).bind fun k => if k then some (.bool true) else b env
def eNotB (a : Env → Option PyData) : Env → Option PyData := fun env => (tN (tE a) env).map PyData.bool
def oNone : Env → Option (Option Int) := fun _ => some none
def asI : PyData → Option Int
  | .int i => some i
  | _ => none
def oSome (f : Env → Option PyData) : Env → Option (Option Int) := fun env => (f env).bind fun d => (asI d).map some

/-! ### operators on data -/
def gI (f : Int → Int → Int) : PyData → PyData → Option PyData
  | .int i, .int j => some (.int (f i j))
  | _, _ => none
def gB (f : Int → Int → Bool) : PyData → PyData → Option PyData
  | .int i, .int j => some (.bool (f i j))
  | _, _ => none
def gIC (c : Int → Int → Bool) (f : Int → Int → Int) : PyData → PyData → Option PyData
  | .int i, .int j => if c i j then some (.int (f i j)) else none
  | _, _ => none
def rAddU : R2 := fun x y H Q => rI0 (fun i j => .int (i + j)) x y H Q ∨ ∃ i j, x = .str i ∧ y = .str j ∧ i.length + j.length ≤ sizeLine ∧ Q (.str (i ++ j)) H
def gAdd : PyData → PyData → Option PyData
  | .int i, .int j => some (.int (i + j))
  | .str i, .str j => if i.length + j.length ≤ 100000 then some (.str (i ++ j)) else none
  | _, _ => none
def cDiv (_ j : Int) : Bool := decide (0 < j ∧ j < 1073741824)
def cMod (_ j : Int) : Bool := decide (0 < j)
def cMul (i j : Int) : Bool := decide ((-18446744073709551616 < i ∧ i < 18446744073709551616) ∨ (-18446744073709551616 < j ∧ j < 18446744073709551616))
def gEq : PyData → PyData → Option PyData := fun x y => if SeqAt.shaped x && SeqAt.shaped y then some (.bool (PyData.eqv x y)) else none
def gNe : PyData → PyData → Option PyData := fun x y => if SeqAt.shaped x && SeqAt.shaped y then some (.bool (!PyData.eqv x y)) else none
/-- x in a list; in a text, x one sign -/
def gInL (neg : Bool) : PyData → PyData → Option PyData := fun x y => match y with
  | .list ds => if SeqAt.shaped x && SeqAt.shaped (.list ds) then some (.bool (if neg then !ds.any fun z => PyData.eqv z x else ds.any fun z => PyData.eqv z x)) else none
  | _ => none
def gInS (neg : Bool) : PyData → PyData → Option PyData
  | .str c, .str z => match c.cps.toList with
    | [k] => some (.bool (if neg then !decide (k ∈ z.cps.toList) else decide (k ∈ z.cps.toList)))
    | _ => none
  | _, _ => none
def flatD : PyData → Option V
  | .none => some .non
  | .bool b => some (.bl b)
  | .int i => some (.int i)
  | .str s => some (.str s)
  | _ => none
def flatDs : List PyData → Option (List V)
  | [] => some []
  | d :: ds => (flatD d).bind fun v => (flatDs ds).map (v :: ·)
/-- x in a tuple of flat things -/
def gInT (neg : Bool) : PyData → PyData → Option PyData := fun x y => match y with
  | .tuple ds => (flatD x).bind fun v => (flatDs ds).bind fun vs => some (.bool (if neg then !inV v vs else inV v vs))
  | _ => none
def gIsN (neg : Bool) : PyData → Option PyData := fun x => some (.bool (match x with | .none => !neg | _ => neg))
def gIx : PyData → PyData → Option PyData
  | .list ds, .int k => atI ds k
  | .tuple ds, .int k => atI ds k
  | .str z, .int k => if z.length ≤ 100000 then (atI z.cps.toList k).map fun c => .str ⟨#[c]⟩ else none
  | .dict [(.none, .list ds)], .int k => atI ds k
  | _, _ => none
def dLen : PyData → Option PyData
  | .list ds => some (.int ds.length)
  | .tuple ds => some (.int ds.length)
  | .str z => if z.length ≤ 100000 then some (.int z.length) else none
  | .dict [(.none, .list ds)] => some (.int ds.length)
  | _ => none
def gLen : List PyData → Option PyData
  | [d] => dLen d
  | _ => none
def tyD : PyData → Option String
  | .none => some "NoneType"
  | .bool _ => some "bool"
  | .int _ => some "int"
  | .str _ => some "str"
  | .list _ => some "list"
  | .tuple _ => some "tuple"
  | _ => none
def gIsi (n : String) : PyData → Option PyData := fun d => (tyD d).bind fun s => (kitB s n).map PyData.bool
def gAbs : List PyData → Option PyData
  | [.int i] => some (.int (if i < 0 then -i else i))
  | _ => none
def gMax : List PyData → Option PyData
  | [.int i, .int j] => some (.int (if j > i then j else i))
  | _ => none
def gInt : List PyData → Option PyData
  | [.int i] => some (.int i)
  | [.bool k] => some (.int (if k then 1 else 0))
  | _ => none
def gNeg : PyData → Option PyData
  | .int i => some (.int (-i))
  | _ => none
def asStrs : List PyData → Option (List Str)
  | [] => some []
  | .str z :: ds => (asStrs ds).map (z :: ·)
  | _ :: _ => none
def gJoin : PyData → PyData → Option PyData
  | .str a, .list ds => (asStrs ds).bind fun ys => if (ys.map (·.length)).sum + ys.length * a.length ≤ 100000 then some (.str (Txt.join a ys)) else none
  | _, _ => none
def asL : PyData → Option (List PyData)
  | .list ds => some ds
  | _ => none
def asLS : PyData → Option (List PyData)
  | .list ds => some ds
  | .dict [(.none, .list ds)] => some ds
  | _ => none
def asLT : PyData → Option (List PyData)
  | .list ds => some ds
  | .tuple ds => some ds
  | .dict [(.none, .list ds)] => some ds
  | _ => none
def n1 (g : PyData → Option (List PyData)) (f : Env → Option PyData) : Env → Option (List PyData) := fun env => (f env).bind g
def nCat (a b : Env → Option PyData) : Env → Option (List PyData) := fun env => (a env).bind fun x => (b env).bind fun y => (asL x).bind fun xs => (asL y).bind fun ys => if xs.length + ys.length ≤ 100000 then some (xs ++ ys) else none
def nSl (f : Env → Option PyData) (lo hi : Env → Option (Option Int)) : Env → Option (List PyData) := fun env => (f env).bind fun x => (lo env).bind fun l => (hi env).bind fun h => (asLS x).map fun ds => cutD ds l h
def nRev (f : Env → Option PyData) : Env → Option (List PyData) := fun env => (f env).bind fun x => (asLS x).map List.reverse
def nRep (f g : Env → Option PyData) : Env → Option (List PyData) := fun env => (f env).bind fun x => (g env).bind fun y => (asL x).bind fun ds => (asI y).bind fun k => if 0 ≤ k ∧ k ≤ 100000 ∧ ds.length * k.toNat ≤ 100000 then some (List.replicate k.toNat ds).flatten else none
def eSlS (f : Env → Option PyData) (lo hi : Env → Option (Option Int)) : Env → Option PyData := fun env => (f env).bind fun x => (lo env).bind fun l => (hi env).bind fun h => match x with
  | .str z => if z.length ≤ 100000 then some (.str (cutS z l h)) else none
  | _ => none
def eSlT (f : Env → Option PyData) (lo hi : Env → Option (Option Int)) : Env → Option PyData := fun env => (f env).bind fun x => (lo env).bind fun l => (hi env).bind fun h => match x with
  | .tuple ds => some (.tuple (cutD ds l h))
  | _ => none

section
variable {K : PySem.W.Frag} {te ta tb tx : TE} {tt tu : TT} {f fa fb fx : Env → Option PyData} {t u : Env → Option Bool} {r : R2}
theorem big (n : Nat) (h : n ≤ 100000) : n ≤ sizeLine := by rw [sizeLine_eq]; omega
theorem DenP.o (h : DenP K te f) : Den K te f := fun base O0 O σ H env d S e Q q => h base O0 O σ H env d S e Q fun v H' x r => q v H' x (.inl r)
theorem hid_free {base H : Hp} {O0 O : Hid} {σ : L2.St} {env : Env} {p : Addr} (S : Sat K base O0 O σ H env) (hp : H p = none) : O p = false := by
  cases q : O p with
  | false => rfl
  | true => exact absurd hp (S.all p q)
theorem DenN.p {f : Env → Option (List PyData)} (h : DenN K te f) : DenP K te (eL f) := by
  intro base O0 O σ H env d S e Q q
  unfold eL at e
  cases hf : f env with
  | none => simp [hf] at e
  | some ds =>
    simp [hf] at e
    subst e
    refine h base O0 O σ H env ds S hf Q fun p vs H' hp x hv r => q _ _ x ?_
    have op := hid_free S hp
    exact .lst (vis_at op hv) (r.mono hid_le)
theorem den_var {i : Nat} : Den K (tVar i) (eVarO i) := by
  intro base O0 O σ H env d S e Q q
  unfold eVarO at e
  cases h : env[i]? with
  | none => simp [h] at e
  | some s =>
    obtain ⟨x, fp, hx, k⟩ := S.at_ h
    rw [h] at e
    cases s with
    | un => cases e
    | any => cases e
    | ob s => cases e
    | sh d' =>
      cases e
      obtain ⟨⟨v, rfl, r⟩, _⟩ := k
      exact ⟨v, hx, q v H (Ex.refl H) (.inl r)⟩
    | own ds =>
      cases e
      obtain ⟨a, vs, rfl, _, _, _, h1, r⟩ := k
      exact ⟨_, hx, q _ H (Ex.refl H) (.inr (.inl ⟨a, vs, ds, rfl, h1, r, rfl⟩))⟩
theorem denP_var {i : Nat} : DenP K (tVar i) (eVar i) := by
  intro base O0 O σ H env d S e Q q
  unfold eVar at e
  cases h : env[i]? with
  | none => simp [h] at e
  | some s =>
    obtain ⟨x, fp, hx, k⟩ := S.at_ h
    rw [h] at e
    cases s with
    | un => cases e
    | any => cases e
    | own ds => cases e
    | ob s => cases e
    | sh d' =>
      cases e
      obtain ⟨⟨v, rfl, r⟩, _⟩ := k
      exact ⟨v, hx, q v H (Ex.refl H) r⟩
theorem den_int {i : Int} : DenP K (tC (.int i)) (eC (.int i)) := fun _ _ _ _ H _ _ _ e _ q => by cases e; exact q _ H (Ex.refl H) (.int i)
theorem den_bl {b : Bool} : DenP K (tC (.bl b)) (eC (.bool b)) := fun _ _ _ _ H _ _ _ e _ q => by cases e; exact q _ H (Ex.refl H) (.bl b)
theorem den_non : DenP K (tC .non) (eC .none) := fun _ _ _ _ H _ _ _ e _ q => by cases e; exact q _ H (Ex.refl H) .non
theorem den_str {z : Str} : DenP K (tC (.str z)) (eC (.str z)) := fun _ _ _ _ H _ _ _ e _ q => by cases e; exact q _ H (Ex.refl H) (.str z)

def Ok2 (K : PySem.W.Frag) (r : R2) (g : PyData → PyData → Option PyData) : Prop := ∀ (O : Hid) (H : Hp) x y d e z, (∀ a, O a = true → H a ≠ none) → Opd K O H x d → Opd K O H y e → g d e = some z → ∀ Q : VK, (∀ v H', Ex H H' → Rp K (vis O H') v z → Q v H') → r x y H Q
theorem den_op {g : PyData → PyData → Option PyData} (hr : Ok2 K r g) (ha : Den K ta fa) (hb : Den K tb fb) : DenP K (tOp r ta tb) (e2 g fa fb) := by
  intro base O0 O σ H env d S e Q q
  unfold e2 at e
  cases h1 : fa env with
  | none => simp [h1] at e
  | some x =>
    cases h2 : fb env with
    | none => simp [h1, h2] at e
    | some y =>
      simp [h1, h2] at e
      refine ha base O0 O σ H env x S h1 _ fun v H1 e1 o1 => ?_
      refine hb base O0 O σ H1 env y (S.mono e1) h2 _ fun w H2 e2 o2 => ?_
      exact hr O H2 v w x y d ((S.mono e1).mono e2).all (o1.mono e2) o2 e Q fun v H' e3 r => q v H' ((e1.trans e2).trans e3) r
theorem ok_I {f : Int → Int → Int} : Ok2 K (rI0 fun i j => .int (f i j)) (gI f) := by
  intro O H x y d e z al o1 o2 h Q q
  unfold gI at h
  split at h
  · cases h
    rw [o1.int, o2.int]
    exact ⟨_, _, rfl, rfl, q _ H (Ex.refl H) (.int _)⟩
  · cases h
theorem ok_B {f : Int → Int → Bool} : Ok2 K (rI0 fun i j => .bl (f i j)) (gB f) := by
  intro O H x y d e z al o1 o2 h Q q
  unfold gB at h
  split at h
  · cases h
    rw [o1.int, o2.int]
    exact ⟨_, _, rfl, rfl, q _ H (Ex.refl H) (.bl _)⟩
  · cases h
theorem ok_IC {C : Int → Int → Prop} {c : Int → Int → Bool} {f : Int → Int → Int} (hc : ∀ i j, c i j = true → C i j) : Ok2 K (rI C fun i j => .int (f i j)) (gIC c f) := by
  intro O H x y d e z al o1 o2 h Q q
  unfold gIC at h
  split at h
  · split at h
    · cases h
      rename_i k
      rw [o1.int, o2.int]
      exact ⟨_, _, rfl, rfl, hc _ _ k, q _ H (Ex.refl H) (.int _)⟩
    · cases h
  · cases h
theorem c_div : ∀ i j, cDiv i j = true → CDiv i j := fun i j h => by unfold cDiv at h; have := of_decide_eq_true h; exact this
theorem c_mod : ∀ i j : Int, cMod i j = true → 0 < j := fun i j h => by unfold cMod at h; exact of_decide_eq_true h
theorem c_mul : ∀ i j, cMul i j = true → CMul i j := fun i j h => by unfold cMul at h; have := of_decide_eq_true h; unfold CMul; omega
theorem ok_add : Ok2 K rAddU gAdd := by
  intro O H x y d e z al o1 o2 h Q q
  unfold gAdd at h
  split at h
  · cases h
    rw [o1.int, o2.int]
    exact .inl ⟨_, _, rfl, rfl, q _ H (Ex.refl H) (.int _)⟩
  · split at h
    · cases h
      rename_i k
      rw [o1.str, o2.str]
      exact .inr ⟨_, _, rfl, rfl, big _ k, q _ H (Ex.refl H) (.str _)⟩
    · cases h
  · cases h
theorem ok_eq : Ok2 K (rEqD K) gEq := by
  intro O H x y d e z al o1 o2 h Q q
  unfold gEq at h
  split at h
  · rename_i k
    rw [Bool.and_eq_true] at k
    cases h
    exact ⟨d, e, o1.rp.dp (SeqAt.canLay_of_shaped k.1), o2.rp.dp (SeqAt.canLay_of_shaped k.2), k.1, k.2, q _ H (Ex.refl H) (.bl _)⟩
  · cases h
theorem ok_ne : Ok2 K (rNeD K) gNe := by
  intro O H x y d e z al o1 o2 h Q q
  unfold gNe at h
  split at h
  · rename_i k
    rw [Bool.and_eq_true] at k
    cases h
    exact ⟨d, e, o1.rp.dp (SeqAt.canLay_of_shaped k.1), o2.rp.dp (SeqAt.canLay_of_shaped k.2), k.1, k.2, q _ H (Ex.refl H) (.bl _)⟩
  · cases h
theorem ok_inL : Ok2 K (rInD K) (gInL false) := by
  intro O H x y d e z al o1 o2 h Q q
  unfold gInL at h
  split at h
  · split at h
    · rename_i k
      rw [Bool.and_eq_true] at k
      cases h
      exact ⟨d, _, o1.rp.dp (SeqAt.canLay_of_shaped k.1), o2.rp.dp (SeqAt.canLay_of_shaped k.2), k.1, k.2, q _ H (Ex.refl H) (.bl _)⟩
    · cases h
  · cases h
theorem ok_niL : Ok2 K (rNotInD K) (gInL true) := by
  intro O H x y d e z al o1 o2 h Q q
  unfold gInL at h
  split at h
  · split at h
    · rename_i k
      rw [Bool.and_eq_true] at k
      cases h
      exact ⟨d, _, o1.rp.dp (SeqAt.canLay_of_shaped k.1), o2.rp.dp (SeqAt.canLay_of_shaped k.2), k.1, k.2, q _ H (Ex.refl H) (.bl _)⟩
    · cases h
  · cases h
theorem flatD_rp {O : Hid} {H : Hp} {x : V} {d : PyData} {v : V} (o : Opd K O H x d) (h : flatD d = some v) : x = v ∧ flatV v = true := by
  have r := o.rp
  cases r <;> cases h <;> exact ⟨rfl, rfl⟩
theorem vis_no {H : Hp} : Ex H (vis (fun _ => false) H) := fun a o h => vis_at rfl h
theorem flatDs_rp {H : Hp} : ∀ {xs : List V} {ds : List PyData} {vs : List V}, RpAll K H xs ds → flatDs ds = some vs → xs = vs ∧ vs.all flatV = true
  | _, _, _, .nil, h => by cases h; exact ⟨rfl, rfl⟩
  | _, _, _, .cons (d := d) (ds := ds) r t, h => by
    unfold flatDs at h
    cases h1 : flatD d with
    | none => rw [h1] at h; cases h
    | some w =>
      cases h2 : flatDs ds with
      | none => rw [h1, h2] at h; cases h
      | some ws =>
        rw [h1, h2] at h
        cases h
        obtain ⟨e1, e2⟩ := flatDs_rp t h2
        have g := flatD_rp (O := fun _ => false) (.inl (r.mono (vis_no (H := _)))) h1
        rw [e1, g.1, List.all_cons, g.2, e2]
        exact ⟨rfl, rfl⟩
theorem ok_inT : Ok2 K (rIn K false) (gInT false) := by
  intro O H x y d e z al o1 o2 h Q q
  unfold gInT at h
  split at h
  · cases h1 : flatD d with
    | none => rw [h1] at h; cases h
    | some v =>
      rename_i ds
      cases h2 : flatDs ds with
      | none => rw [h1, h2] at h; cases h
      | some vs =>
        rw [h1, h2] at h
        cases h
        obtain ⟨a, us, rfl, hs, ra⟩ := o2.tup
        obtain ⟨rfl, fv⟩ := flatD_rp o1 h1
        obtain ⟨rfl, fs⟩ := flatDs_rp ra h2
        exact ⟨a, us, rfl, .inr hs, fv, fs, q _ H (Ex.refl H) (.bl _)⟩
  · cases h
theorem ok_niT : Ok2 K (rIn K true) (gInT true) := by
  intro O H x y d e z al o1 o2 h Q q
  unfold gInT at h
  split at h
  · cases h1 : flatD d with
    | none => rw [h1] at h; cases h
    | some v =>
      rename_i ds
      cases h2 : flatDs ds with
      | none => rw [h1, h2] at h; cases h
      | some vs =>
        rw [h1, h2] at h
        cases h
        obtain ⟨a, us, rfl, hs, ra⟩ := o2.tup
        obtain ⟨rfl, fv⟩ := flatD_rp o1 h1
        obtain ⟨rfl, fs⟩ := flatDs_rp ra h2
        exact ⟨a, us, rfl, .inr hs, fv, fs, q _ H (Ex.refl H) (.bl _)⟩
  · cases h
def rInS1 : R2 := fun x y H Q => ∃ (c : Nat) (z : Str), x = .str ⟨#[c]⟩ ∧ y = .str z ∧ Q (.bl (decide (c ∈ z.cps.toList))) H
def rNiS1 : R2 := fun x y H Q => ∃ (c : Nat) (z : Str), x = .str ⟨#[c]⟩ ∧ y = .str z ∧ Q (.bl (!decide (c ∈ z.cps.toList))) H
theorem one_sign {c : Str} {k : Nat} (h : c.cps.toList = [k]) : c = ⟨#[k]⟩ := by
  cases c with
  | mk a =>
    have : a = #[k] := by
      apply Array.toList_inj.mp
      simpa using h
    rw [this]
theorem ok_inS : Ok2 K rInS1 (gInS false) := by
  intro O H x y d e z al o1 o2 h Q q
  unfold gInS at h
  split at h
  · split at h
    · rename_i k hk
      cases h
      rw [o1.str, o2.str]
      exact ⟨k, _, by rw [one_sign hk], rfl, q _ H (Ex.refl H) (.bl _)⟩
    · cases h
  · cases h
theorem ok_niS : Ok2 K rNiS1 (gInS true) := by
  intro O H x y d e z al o1 o2 h Q q
  unfold gInS at h
  split at h
  · split at h
    · rename_i k hk
      cases h
      rw [o1.str, o2.str]
      exact ⟨k, _, by rw [one_sign hk], rfl, q _ H (Ex.refl H) (.bl _)⟩
    · cases h
  · cases h
theorem ok_ix : Ok2 K (rIx K) gIx := by
  intro O H x y d e z al o1 o2 h Q q
  unfold gIx at h
  split at h
  · obtain ⟨a, vs, rfl, hv, ra⟩ := o1.lst
    obtain ⟨v, hv2, r⟩ := ra.at_ h
    rw [o2.int]
    exact .inl ⟨a, vs, _, v, rfl, rfl, SqL.of hv, hv2, q _ H (Ex.refl H) r⟩
  · obtain ⟨a, vs, rfl, hv, ra⟩ := o1.tup
    obtain ⟨v, hv2, r⟩ := ra.at_ h
    rw [o2.int]
    exact .inr (.inl ⟨a, vs, _, v, rfl, rfl, hv, hv2, q _ H (Ex.refl H) r⟩)
  · split at h
    · rename_i zz k hk
      rw [o1.str, o2.int]
      cases h2 : atI zz.cps.toList k with
      | none => rw [h2] at h; cases h
      | some c =>
        rw [h2] at h
        cases h
        exact .inr (.inr ⟨_, _, c, rfl, rfl, big _ hk, h2, q _ H (Ex.refl H) (.str _)⟩)
    · cases h
  · obtain ⟨a, ns, rfl, hv, rfl⟩ := o1.scr
    obtain ⟨v, hv2, r⟩ := (RpAll.ints (K := K) (H := vis O H) ns).at_ h
    rw [o2.int]
    exact .inl ⟨a, _, _, v, rfl, rfl, hv, hv2, q _ H (Ex.refl H) r⟩
  · cases h
/-! ### one place -/
theorem den_isN (ha : Den K ta fa) : DenP K (tOp (fun x y H Q => y = .non ∧ Q (.bl (decide (x = .non))) H) ta (tC .non)) (e1 (gIsN false) fa) := by
  intro base O0 O σ H env d S e Q q
  unfold e1 at e
  cases h1 : fa env with
  | none => simp [h1] at e
  | some x =>
    simp [h1, gIsN] at e
    subst e
    refine ha base O0 O σ H env x S h1 _ fun v H1 e1 o1 => ⟨rfl, q _ _ e1 ?_⟩
    have r := o1.rp
    cases r <;> exact .bl _
theorem den_notN (ha : Den K ta fa) : DenP K (tOp (fun x y H Q => y = .non ∧ Q (.bl (!decide (x = .non))) H) ta (tC .non)) (e1 (gIsN true) fa) := by
  intro base O0 O σ H env d S e Q q
  unfold e1 at e
  cases h1 : fa env with
  | none => simp [h1] at e
  | some x =>
    simp [h1, gIsN] at e
    subst e
    refine ha base O0 O σ H env x S h1 _ fun v H1 e1 o1 => ⟨rfl, q _ _ e1 ?_⟩
    have r := o1.rp
    cases r <;> exact .bl _
theorem den_neg (ha : Den K ta fa) : DenP K (tUn (rU fun i => .int (-i)) ta) (e1 gNeg fa) := by
  intro base O0 O σ H env d S e Q q
  unfold e1 at e
  cases h1 : fa env with
  | none => simp [h1] at e
  | some x =>
    simp [h1] at e
    refine ha base O0 O σ H env x S h1 _ fun v H1 e1 o1 => ?_
    unfold gNeg at e
    split at e
    · cases e
      rw [o1.int]
      exact ⟨_, rfl, q _ _ e1 (.int _)⟩
    · cases e
/-! ### tests -/
theorem den_val (h : Den K te f) : DenT K (tB te) (tE f) := by
  intro base O0 O σ H env b S e Q q
  unfold tE at e
  cases h1 : f env with
  | none => simp [h1] at e
  | some x =>
    simp [h1] at e
    refine h base O0 O σ H env x S h1 _ fun v H1 e1 o1 => ?_
    unfold asB at e
    split at e
    · cases e
      exact ⟨_, o1.bl, q _ e1⟩
    · cases e
theorem den_test (h : Den K te f) : DenT K (tTest te) (tE f) := by
  intro base O0 O σ H env b S e Q q
  unfold tE at e
  cases h1 : f env with
  | none => simp [h1] at e
  | some x =>
    simp [h1] at e
    refine h base O0 O σ H env x S h1 _ fun v H1 e1 o1 => ?_
    unfold asB at e
    split at e
    · cases e
      exact ⟨_, o1.bl, q _ e1⟩
    · cases e
theorem den_and (h1 : DenT K tt t) (h2 : DenT K tu u) : DenT K (tAnd tt tu) (tA t u) := by
  intro base O0 O σ H env b S e Q q
  unfold tA at e
  cases k1 : t env with
  | none => simp [k1] at e
  | some x =>
    simp [k1] at e
    refine h1 base O0 O σ H env x S k1 _ fun H1 x1 => ?_
    cases x with
    | true =>
      show tu σ H1 Q
      exact h2 base O0 O σ H1 env b (S.mono x1) (by simpa using e) Q fun H2 x2 => q H2 (x1.trans x2)
    | false =>
      show Q false H1
      have : false = b := by simpa using e
      subst this
      exact q H1 x1
theorem den_or (h1 : DenT K tt t) (h2 : DenT K tu u) : DenT K (tOr tt tu) (tO t u) := by
  intro base O0 O σ H env b S e Q q
  unfold tO at e
  cases k1 : t env with
  | none => simp [k1] at e
  | some x =>
    simp [k1] at e
    refine h1 base O0 O σ H env x S k1 _ fun H1 x1 => ?_
    cases x with
    | false =>
      show tu σ H1 Q
      exact h2 base O0 O σ H1 env b (S.mono x1) (by simpa using e) Q fun H2 x2 => q H2 (x1.trans x2)
    | true =>
      show Q true H1
      have : true = b := by simpa using e
      subst this
      exact q H1 x1
theorem den_not (h1 : DenT K tt t) : DenT K (tNot tt) (tN t) := by
  intro base O0 O σ H env b S e Q q
  unfold tN at e
  cases k1 : t env with
  | none => simp [k1] at e
  | some x =>
    rw [k1] at e
    cases e
    exact h1 base O0 O σ H env x S k1 _ fun H1 x1 => q H1 x1
theorem denT_yes : DenT K tYes (fun _ => some true) := fun _ _ _ _ H _ _ _ e _ q => by cases e; exact q H (Ex.refl H)
theorem den_andV (ha : Den K ta fa) (hb : DenP K tb fb) : DenP K (tAndV ta tb) (eAndB fa fb) := by
  intro base O0 O σ H env d S e Q q
  unfold eAndB tE at e
  cases k1 : fa env with
  | none => simp [k1] at e
  | some x =>
    simp [k1] at e
    refine ha base O0 O σ H env x S k1 _ fun v H1 x1 o1 => ?_
    unfold asB at e
    split at e
    · refine ⟨_, o1.bl, ?_⟩
      rename_i c
      cases c with
      | true =>
        show tb σ H1 Q
        exact hb base O0 O σ H1 env d (S.mono x1) (by simpa using e) Q fun v H2 x2 r => q v H2 (x1.trans x2) r
      | false =>
        show Q (.bl false) H1
        have : PyData.bool false = d := by simpa using e
        subst this
        exact q _ H1 x1 (.bl _)
    · simp at e
theorem den_orV (ha : Den K ta fa) (hb : DenP K tb fb) : DenP K (tOrV ta tb) (eOrB fa fb) := by
  intro base O0 O σ H env d S e Q q
  unfold eOrB tE at e
  cases k1 : fa env with
  | none => simp [k1] at e
  | some x =>
    simp [k1] at e
    refine ha base O0 O σ H env x S k1 _ fun v H1 x1 o1 => ?_
    unfold asB at e
    split at e
    · refine ⟨_, o1.bl, ?_⟩
      rename_i c
      cases c with
      | false =>
        show tb σ H1 Q
        exact hb base O0 O σ H1 env d (S.mono x1) (by simpa using e) Q fun v H2 x2 r => q v H2 (x1.trans x2) r
      | true =>
        show Q (.bl true) H1
        have : PyData.bool true = d := by simpa using e
        subst this
        exact q _ H1 x1 (.bl _)
    · simp at e
theorem den_notV (ha : Den K ta fa) : DenP K (tNotV ta) (eNotB fa) := by
  intro base O0 O σ H env d S e Q q
  unfold eNotB tN tE at e
  cases k1 : fa env with
  | none => simp [k1] at e
  | some x =>
    rw [k1] at e
    refine ha base O0 O σ H env x S k1 _ fun v H1 x1 o1 => ?_
    rw [Option.bind_some] at e
    unfold asB at e
    split at e
    · cases e
      exact ⟨_, o1.bl, q _ _ x1 (.bl _)⟩
    · cases e
theorem den_if (ht : DenT K tt t) (ha : DenP K ta fa) (hb : DenP K tb fb) : DenP K (tIf tt ta tb) (eIf t fa fb) := by
  intro base O0 O σ H env d S e Q q
  unfold eIf at e
  cases k1 : t env with
  | none => simp [k1] at e
  | some x =>
    simp [k1] at e
    refine ht base O0 O σ H env x S k1 _ fun H1 x1 => ?_
    cases x with
    | true =>
      show ta σ H1 Q
      exact ha base O0 O σ H1 env d (S.mono x1) (by simpa using e) Q fun v H2 x2 r => q v H2 (x1.trans x2) r
    | false =>
      show tb σ H1 Q
      exact hb base O0 O σ H1 env d (S.mono x1) (by simpa using e) Q fun v H2 x2 r => q v H2 (x1.trans x2) r
/-! ### arguments, displays -/
variable {tr : TA} {fr fs : Env → Option (List PyData)}
theorem den_anil : DenA K tNil aNil := fun _ _ _ _ H _ _ _ e _ q => by cases e; exact q _ H (Ex.refl H) .nil
theorem den_apnil : DenAP K tNil aNil := fun _ _ _ _ H _ _ _ e _ q => by cases e; exact q _ H (Ex.refl H) .nil
theorem den_acons (h : Den K te f) (hr : DenA K tr fr) : DenA K (tCons te tr) (aCons f fr) := by
  intro base O0 O σ H env ds S e Q q
  unfold aCons at e
  cases k1 : f env with
  | none => simp [k1] at e
  | some x =>
    cases k2 : fr env with
    | none => simp [k1, k2] at e
    | some xs =>
      simp [k1, k2] at e
      subst e
      refine h base O0 O σ H env x S k1 _ fun v H1 x1 o1 => ?_
      exact hr base O0 O σ H1 env xs (S.mono x1) k2 _ fun vs H2 x2 r => q _ H2 (x1.trans x2) (.cons (o1.mono x2) r)
theorem den_apcons (h : DenP K te f) (hr : DenAP K tr fr) : DenAP K (tCons te tr) (aCons f fr) := by
  intro base O0 O σ H env ds S e Q q
  unfold aCons at e
  cases k1 : f env with
  | none => simp [k1] at e
  | some x =>
    cases k2 : fr env with
    | none => simp [k1, k2] at e
    | some xs =>
      simp [k1, k2] at e
      subst e
      refine h base O0 O σ H env x S k1 _ fun v H1 x1 o1 => ?_
      exact hr base O0 O σ H1 env xs (S.mono x1) k2 _ fun vs H2 x2 r => q _ H2 (x1.trans x2) (.cons (o1.mono (vis_mono x2)) r)
theorem short_some {ds es : List PyData} (h : short ds = some es) : ds = es ∧ ds.length ≤ 100000 := by
  unfold short at h
  split at h
  · cases h
    exact ⟨rfl, by assumption⟩
  · cases h
theorem den_tup (h : DenAP K tr fr) : DenP K (tTup tr) (eTup fr) := by
  intro base O0 O σ H env d S e Q q
  unfold eTup at e
  cases k1 : fr env with
  | none => simp [k1] at e
  | some xs =>
    simp [k1] at e
    obtain ⟨es, k2, rfl⟩ := e
    obtain ⟨rfl, hz⟩ := short_some k2
    refine h base O0 O σ H env xs S k1 _ fun vs H1 x1 r => ⟨by rw [r.length]; exact big _ hz, fun p hp => ?_⟩
    have op := hid_free (S.mono x1) hp
    refine q _ _ (x1.trans (Ex.new hp)) (.tup (SqT.of (vis_at op upd_same)) (r.mono (vis_mono (Ex.new hp))))
theorem den_lst (h : DenAP K tr fr) : DenN K (tLst tr) (nLst fr) := by
  intro base O0 O σ H env d S e Q q
  unfold nLst at e
  cases k1 : fr env with
  | none => simp [k1] at e
  | some xs =>
    simp [k1] at e
    obtain ⟨rfl, hz⟩ := short_some e
    refine h base O0 O σ H env xs S k1 _ fun vs H1 x1 r => ⟨by rw [r.length]; exact big _ hz, fun p hp => ?_⟩
    exact q p vs _ (x1.free hp) (x1.trans (Ex.new hp)) upd_same (r.mono (vis_hid hp (Ex.new hp)))
/-! ### parts of a slice -/
theorem den_onone : DenO K tNoPart oNone := fun _ _ _ _ H _ _ _ e _ q => by cases e; exact q H (Ex.refl H)
theorem den_osome (h : Den K te f) : DenO K (tPart te) (oSome f) := by
  intro base O0 O σ H env o S e Q q
  unfold oSome at e
  cases k1 : f env with
  | none => simp [k1] at e
  | some x =>
    simp [k1] at e
    refine h base O0 O σ H env x S k1 _ fun v H1 x1 o1 => ?_
    obtain ⟨i, k2, rfl⟩ := e
    unfold asI at k2
    split at k2
    · cases k2
      exact ⟨_, o1.int, q H1 x1⟩
    · cases k2
theorem asLS_opd {O : Hid} {H : Hp} {v : V} {d : PyData} {ds : List PyData} (o : Opd K O H v d) (h : asLS d = some ds) : ∃ a vs, v = .ref a ∧ SqL K H a vs ∧ RpAll K (vis O H) vs ds := by
  unfold asLS at h
  split at h
  · cases h
    obtain ⟨a, vs, e, h1, r⟩ := o.lst
    exact ⟨a, vs, e, SqL.of h1, r⟩
  · cases h
    obtain ⟨a, ns, e, h1, rfl⟩ := o.scr
    exact ⟨a, _, e, h1, RpAll.ints ns⟩
  · cases h
theorem asLT_opd {O : Hid} {H : Hp} {v : V} {d : PyData} {ds : List PyData} (o : Opd K O H v d) (h : asLT d = some ds) : ∃ a vs, v = .ref a ∧ (SqL K H a vs ∨ SqT K H a vs) ∧ RpAll K (vis O H) vs ds := by
  unfold asLT at h
  split at h
  · cases h
    obtain ⟨a, vs, e, h1, r⟩ := o.lst
    exact ⟨a, vs, e, .inl (SqL.of h1), r⟩
  · cases h
    obtain ⟨a, vs, e, h1, r⟩ := o.tup
    exact ⟨a, vs, e, .inr h1, r⟩
  · cases h
    obtain ⟨a, ns, e, h1, rfl⟩ := o.scr
    exact ⟨a, _, e, .inl h1, RpAll.ints ns⟩
  · cases h
theorem asL_opd {O : Hid} {H : Hp} {v : V} {d : PyData} {ds : List PyData} (o : Opd K O H v d) (h : asL d = some ds) : ∃ a vs, v = .ref a ∧ H a = some (.lst vs) ∧ RpAll K (vis O H) vs ds := by
  unfold asL at h
  split at h
  · cases h
    exact o.lst
  · cases h
variable {tl th : TO} {fl fh : Env → Option (Option Int)}
theorem den_slL (h : Den K te f) (hl : DenO K tl fl) (hh : DenO K th fh) : DenN K (tSl (rSlL K) te tl th) (nSl f fl fh) := by
  intro base O0 O σ H env ds S e Q q
  unfold nSl at e
  cases k1 : f env with
  | none => simp [k1] at e
  | some x =>
    cases k2 : fl env with
    | none => simp [k1, k2] at e
    | some l =>
      cases k3 : fh env with
      | none => simp [k1, k2, k3] at e
      | some u =>
        simp [k1, k2, k3] at e
        obtain ⟨es, k4, rfl⟩ := e
        refine h base O0 O σ H env x S k1 _ fun v H1 x1 o1 => ?_
        refine hl base O0 O σ H1 env l (S.mono x1) k2 _ fun H2 x2 => ?_
        refine hh base O0 O σ H2 env u ((S.mono x1).mono x2) k3 _ fun H3 x3 => ?_
        obtain ⟨a, vs, rfl, hs, r⟩ := asLS_opd ((o1.mono x2).mono x3) k4
        refine ⟨a, vs, rfl, hs, fun p hp => ?_⟩
        exact q p _ _ (((x1.trans x2).trans x3).free hp) (((x1.trans x2).trans x3).trans (Ex.new hp)) upd_same ((r.cut l u).mono (vis_hid hp (Ex.new hp)))
theorem den_slS (h : Den K te f) (hl : DenO K tl fl) (hh : DenO K th fh) : DenP K (tSl rSlS te tl th) (eSlS f fl fh) := by
  intro base O0 O σ H env d S e Q q
  unfold eSlS at e
  cases k1 : f env with
  | none => simp [k1] at e
  | some x =>
    cases k2 : fl env with
    | none => simp [k1, k2] at e
    | some l =>
      cases k3 : fh env with
      | none => simp [k1, k2, k3] at e
      | some u =>
        simp only [k1, k2, k3, Option.bind_some] at e
        refine h base O0 O σ H env x S k1 _ fun v H1 x1 o1 => ?_
        refine hl base O0 O σ H1 env l (S.mono x1) k2 _ fun H2 x2 => ?_
        refine hh base O0 O σ H2 env u ((S.mono x1).mono x2) k3 _ fun H3 x3 => ?_
        split at e
        · split at e
          · rename_i hz
            cases e
            exact ⟨_, o1.str, big _ hz, q _ _ ((x1.trans x2).trans x3) (.str _)⟩
          · cases e
        · cases e
theorem den_slT (h : Den K te f) (hl : DenO K tl fl) (hh : DenO K th fh) : DenP K (tSl (rSlA K) te tl th) (eSlT f fl fh) := by
  intro base O0 O σ H env d S e Q q
  unfold eSlT at e
  cases k1 : f env with
  | none => simp [k1] at e
  | some x =>
    cases k2 : fl env with
    | none => simp [k1, k2] at e
    | some l =>
      cases k3 : fh env with
      | none => simp [k1, k2, k3] at e
      | some u =>
        simp only [k1, k2, k3, Option.bind_some] at e
        refine h base O0 O σ H env x S k1 _ fun v H1 x1 o1 => ?_
        refine hl base O0 O σ H1 env l (S.mono x1) k2 _ fun H2 x2 => ?_
        refine hh base O0 O σ H2 env u ((S.mono x1).mono x2) k3 _ fun H3 x3 => ?_
        split at e
        · cases e
          rename_i ds
          have o3 := (o1.mono x2).mono x3
          rcases o3 with o3 | ⟨a, vs, es, _, _, _, z⟩ | ⟨_, z, _⟩
          · cases o3 with
            | @tup a vs _ hs r =>
              refine ⟨a, vs, rfl, ex_t vis_le hs, fun hc => ?_, fun _ p hp => ?_⟩
              · refine q _ _ ((x1.trans x2).trans x3) (.tup hs ?_)
                have e1 : cutD ds l u = ds := by
                  unfold cutD
                  rw [r.length] at hc
                  rw [hc.1, hc.2, List.drop_zero, Nat.sub_zero, List.take_length]
                rw [e1]
                exact r
              · have op := hid_free (((S.mono x1).mono x2).mono x3) hp
                exact q _ _ (((x1.trans x2).trans x3).trans (Ex.new hp)) (.tup (SqT.of (vis_at op upd_same)) ((r.cut l u).mono (vis_mono (Ex.new hp))))
          · cases z
          · cases z
        · cases e
theorem den_rev (h : Den K te f) : DenN K (tRevL K te) (nRev f) := by
  intro base O0 O σ H env ds S e Q q
  unfold nRev at e
  cases k1 : f env with
  | none => simp [k1] at e
  | some x =>
    simp [k1] at e
    obtain ⟨es, k4, rfl⟩ := e
    refine h base O0 O σ H env x S k1 _ fun v H1 x1 o1 => ?_
    obtain ⟨a, vs, rfl, hs, r⟩ := asLS_opd o1 k4
    exact ⟨a, vs, rfl, hs, fun p hp => q p _ _ (x1.free hp) (x1.trans (Ex.new hp)) upd_same (r.reverse.mono (vis_hid hp (Ex.new hp)))⟩
theorem den_cat (ha : Den K ta fa) (hb : Den K tb fb) : DenN K (tOp rCat ta tb) (nCat fa fb) := by
  intro base O0 O σ H env ds S e Q q
  unfold nCat at e
  cases k1 : fa env with
  | none => simp [k1] at e
  | some x =>
    cases k2 : fb env with
    | none => simp [k1, k2] at e
    | some y =>
      simp only [k1, k2, Option.bind_some] at e
      cases k3 : asL x with
      | none => simp [k3] at e
      | some xs =>
        cases k4 : asL y with
        | none => simp [k3, k4] at e
        | some ys =>
          simp only [k3, k4, Option.bind_some] at e
          split at e
          · rename_i hz
            cases e
            refine ha base O0 O σ H env x S k1 _ fun v H1 x1 o1 => ?_
            refine hb base O0 O σ H1 env y (S.mono x1) k2 _ fun w H2 x2 o2 => ?_
            obtain ⟨a, vs, rfl, h1, r1⟩ := asL_opd (o1.mono x2) k3
            obtain ⟨b, ws, rfl, h2, r2⟩ := asL_opd o2 k4
            exact ⟨a, b, vs, ws, rfl, rfl, h1, h2, by rw [r1.length, r2.length]; exact big _ hz, fun p hp => q p _ _ ((x1.trans x2).free hp) ((x1.trans x2).trans (Ex.new hp)) upd_same ((r1.append r2).mono (vis_hid hp (Ex.new hp)))⟩
          · cases e
theorem RpAll.flat {H : Hp} {vs : List V} {ds : List PyData} (r : RpAll K H vs ds) : ∀ n : Nat, RpAll K H (List.replicate n vs).flatten (List.replicate n ds).flatten
  | 0 => .nil
  | n + 1 => by
    rw [List.replicate_succ, List.replicate_succ, List.flatten_cons, List.flatten_cons]
    exact r.append (RpAll.flat r n)
theorem den_rep (ha : Den K ta fa) (hb : Den K tb fb) : DenN K (tOp rRep ta tb) (nRep fa fb) := by
  intro base O0 O σ H env ds S e Q q
  unfold nRep at e
  cases k1 : fa env with
  | none => simp [k1] at e
  | some x =>
    cases k2 : fb env with
    | none => simp [k1, k2] at e
    | some y =>
      simp only [k1, k2, Option.bind_some] at e
      cases k3 : asL x with
      | none => simp [k3] at e
      | some xs =>
        cases k4 : asI y with
        | none => simp [k3, k4] at e
        | some n =>
          simp only [k3, k4, Option.bind_some] at e
          split at e
          · rename_i hz
            cases e
            refine ha base O0 O σ H env x S k1 _ fun v H1 x1 o1 => ?_
            refine hb base O0 O σ H1 env y (S.mono x1) k2 _ fun w H2 x2 o2 => ?_
            obtain ⟨a, vs, rfl, h1, r1⟩ := asL_opd (o1.mono x2) k3
            have : w = .int n := by
              unfold asI at k4
              split at k4
              · cases k4
                exact o2.int
              · cases k4
            subst this
            exact ⟨a, n, vs, rfl, rfl, h1, by omega, by omega, by rw [r1.length]; exact big _ hz.2.2, fun p hp => q p _ _ ((x1.trans x2).free hp) ((x1.trans x2).trans (Ex.new hp)) upd_same ((r1.flat n.toNat).mono (vis_hid hp (Ex.new hp)))⟩
          · cases e
/-! ### built-ins -/
def OkC (K : PySem.W.Frag) (r : List V → Hp → VK → Prop) (g : List PyData → Option PyData) : Prop := ∀ (O : Hid) (H : Hp) vs ds z, (∀ a, O a = true → H a ≠ none) → OpdAll K O H vs ds → g ds = some z → ∀ Q : VK, (∀ v H', Ex H H' → Rp K (vis O H') v z → Q v H') → r vs H Q
theorem den_cb {r : List V → Hp → VK → Prop} {g : List PyData → Option PyData} (hr : OkC K r g) (h : DenA K tr fr) : DenP K (tCB r tr) (eA g fr) := by
  intro base O0 O σ H env d S e Q q
  unfold eA at e
  cases k1 : fr env with
  | none => simp [k1] at e
  | some xs =>
    simp [k1] at e
    refine h base O0 O σ H env xs S k1 _ fun vs H1 x1 r1 => ?_
    exact hr O H1 vs xs d (S.mono x1).all r1 e Q fun v H' x2 r2 => q v H' (x1.trans x2) r2
theorem okc_len : OkC K (fun xs H Q => ∃ x n, xs = [x] ∧ LenV K x H n ∧ Q (.int n) H) gLen := by
  intro O H vs ds z al o e Q q
  unfold gLen at e
  split at e
  · cases o with
    | cons o t =>
      cases t
      unfold dLen at e
      split at e
      · cases e
        obtain ⟨a, vs, rfl, h1, r⟩ := o.lst
        exact ⟨_, _, rfl, .inl ⟨vs, SqL.of h1, rfl⟩, by rw [r.length]; exact q _ H (Ex.refl H) (.int _)⟩
      · cases e
        obtain ⟨a, vs, rfl, h1, r⟩ := o.tup
        exact ⟨_, _, rfl, .inr ⟨vs, h1, rfl⟩, by rw [r.length]; exact q _ H (Ex.refl H) (.int _)⟩
      · split at e
        · rename_i hz
          cases e
          rw [o.str]
          exact ⟨_, _, rfl, ⟨big _ hz, rfl⟩, q _ H (Ex.refl H) (.int _)⟩
        · cases e
      · cases e
        obtain ⟨a, ns, rfl, h1, rfl⟩ := o.scr
        exact ⟨_, _, rfl, .inl ⟨_, h1, rfl⟩, by have z := q _ H (Ex.refl H) (.int _); rw [List.length_map] at z ⊢; exact z⟩
      · cases e
  · cases e
theorem okc_abs : OkC K (fun xs H Q => ∃ i, xs = [.int i] ∧ Q (.int (if i < 0 then -i else i)) H) gAbs := by
  intro O H vs ds z al o e Q q
  unfold gAbs at e
  split at e
  · cases o with
    | cons o t =>
      cases t
      cases e
      rw [o.int]
      exact ⟨_, rfl, q _ H (Ex.refl H) (.int _)⟩
  · cases e
theorem okc_max : OkC K (fun xs H Q => ∃ i j, xs = [.int i, .int j] ∧ Q (.int (if j > i then j else i)) H) gMax := by
  intro O H vs ds z al o e Q q
  unfold gMax at e
  split at e
  · cases o with
    | cons o t =>
      cases t with
      | cons o2 t =>
        cases t
        cases e
        rw [o.int, o2.int]
        exact ⟨_, _, rfl, q _ H (Ex.refl H) (.int _)⟩
  · cases e
theorem okc_int : OkC K (fun xs H Q => (∃ i, xs = [.int i] ∧ Q (.int i) H) ∨ ∃ k, xs = [.bl k] ∧ Q (.int (if k then 1 else 0)) H) gInt := by
  intro O H vs ds z al o e Q q
  unfold gInt at e
  split at e
  · cases o with
    | cons o t =>
      cases t
      cases e
      rw [o.int]
      exact .inl ⟨_, rfl, q _ H (Ex.refl H) (.int _)⟩
  · cases o with
    | cons o t =>
      cases t
      cases e
      rw [o.bl]
      exact .inr ⟨_, rfl, q _ H (Ex.refl H) (.int _)⟩
  · cases e
theorem tyx_l {H : Hp} {a : Addr} {vs : List V} (h : SqL K H a vs) : TyX K H (.ref a) (.type "list") := by
  rcases h with (h | ⟨o, h⟩) | ⟨o, its, n, h1, h2, _⟩
  · exact .base (.lst h)
  · exact .base (.frz h)
  · exact .kList h1 h2
theorem tyx_t {H : Hp} {a : Addr} {vs : List V} (h : SqT K H a vs) : TyX K H (.ref a) (.type "tuple") := by
  rcases h with (h | ⟨o, h⟩) | ⟨o, its, n, h1, h2, _⟩
  · exact .base (.tup h)
  · exact .fTuple h
  · exact .kTuple h1 h2
theorem tyD_x {O : Hid} {H : Hp} {v : V} {d : PyData} {s : String} (o : Opd K O H v d) (h : tyD d = some s) : TyX K H v (.type s) := by
  have r := o.rp
  cases r with
  | non => cases h; exact .base .non
  | bl b => cases h; exact .base (.bl b)
  | int i => cases h; exact .base (.int i)
  | str x => cases h; exact .base (.str x)
  | lst h1 _ => cases h; exact tyx_l (SqL.of h1)
  | tup h1 _ => cases h; exact tyx_t h1
  | dic h1 _ _ => cases h
  | scr h1 => cases h
theorem den_isi {n : String} (h : Den K te f) : DenP K (tCB (rIsi K) (tCons te (tCons (tC (.ty n)) tNil))) (e1 (gIsi n) f) := by
  intro base O0 O σ H env d S e Q q
  unfold e1 at e
  cases k1 : f env with
  | none => simp [k1] at e
  | some x =>
    simp only [k1, Option.bind_some, gIsi] at e
    cases k2 : tyD x with
    | none => simp [k2] at e
    | some s =>
      simp only [k2, Option.bind_some] at e
      cases k3 : kitB s n with
      | none => simp [k3] at e
      | some b =>
        simp only [k3, Option.map_some] at e
        cases e
        refine h base O0 O σ H env x S k1 _ fun v H1 x1 o1 => ?_
        exact ⟨v, .ty n, .type s, .type n, b, rfl, .ty n, tyD_x o1 k2, kit_ty k3, q _ _ x1 (.bl b)⟩
theorem asStrs_rp {H : Hp} : ∀ {vs : List V} {ds : List PyData} {ys : List Str}, RpAll K H vs ds → asStrs ds = some ys → vs = ys.map V.str
  | _, _, _, .nil, h => by cases h; rfl
  | _, _, _, .cons (d := d) (ds := ds) r t, h => by
    cases d with
    | str z =>
      have h' : (asStrs ds).map (z :: ·) = some _ := h
      cases k : asStrs ds with
      | none => rw [k] at h'; cases h'
      | some zs =>
        rw [k] at h'
        cases h'
        cases r
        rw [asStrs_rp t k]
        rfl
    | _ => cases h
def rJoin (K : PySem.W.Frag) : V → List V → Hp → VK → Prop := fun x xs H Q => ∃ a p, ∃ ys : List Str, x = .str a ∧ xs = [.ref p] ∧ (SqL K H p (ys.map V.str) ∨ SqT K H p (ys.map V.str)) ∧ (ys.map (·.length)).sum + ys.length * a.length ≤ 16777216 ∧ Q (.str (Txt.join a ys)) H
theorem den_join (ha : Den K ta fa) (hb : Den K tb fb) : DenP K (tM1 (rJoin K) ta tb) (e2 gJoin fa fb) := by
  intro base O0 O σ H env d S e Q q
  unfold e2 at e
  cases h1 : fa env with
  | none => simp [h1] at e
  | some x =>
    cases h2 : fb env with
    | none => simp [h1, h2] at e
    | some y =>
      simp only [h1, h2, Option.bind_some] at e
      unfold gJoin at e
      split at e
      · rename_i a ds
        cases k : asStrs ds with
        | none => simp [k] at e
        | some ys =>
          simp only [k, Option.bind_some] at e
          split at e
          · rename_i hz
            cases e
            refine ha base O0 O σ H env _ S h1 _ fun v H1 x1 o1 => ⟨⟨_, o1.str⟩, ?_⟩
            refine hb base O0 O σ H1 env _ (S.mono x1) h2 _ fun w H2 x2 o2 => ?_
            obtain ⟨p, vs, rfl, h3, r⟩ := o2.lst
            refine ⟨a, p, ys, o1.str, rfl, .inl ?_, by omega, q _ _ (x1.trans x2) (.str _)⟩
            rw [← asStrs_rp r k]
            exact SqL.of h3
          · cases e
      · cases e
/-- list(x) -/
def nList (f : Env → Option (List PyData)) : Env → Option (List PyData) := fun env => (f env).bind fun
  | [d] => asLT d
  | _ => none
theorem den_list (h : DenA K tr fr) : DenN K (tCB (fun xs H Q => ∃ p ys, xs = [.ref p] ∧ (SqL K H p ys ∨ SqT K H p ys) ∧ ∀ l, H l = none → Q (.ref l) (upd H l (.lst ys))) tr) (nList fr) := by
  intro base O0 O σ H env ds S e Q q
  unfold nList at e
  cases k1 : fr env with
  | none => simp [k1] at e
  | some xs =>
    simp only [k1, Option.bind_some] at e
    split at e
    · refine h base O0 O σ H env _ S k1 _ fun vs H1 x1 r1 => ?_
      cases r1 with
      | cons o t =>
        cases t
        obtain ⟨a, ws, rfl, h1, r⟩ := asLT_opd o e
        exact ⟨a, ws, rfl, h1, fun p hp => q p _ _ (x1.free hp) (x1.trans (Ex.new hp)) upd_same (r.mono (vis_hid hp (Ex.new hp)))⟩
    · cases e
end
end PL
namespace PL
open PySem L2

/-! ### what is walked -/
/-- J gives the items ds; Bs holds what is walked, Bi the items -/
def ItOk (K : PySem.W.Frag) (Bs Bi : Hp) (J : It) (ds : List PyData) : Prop := ∀ (O : Hid) (H : Hp), (∀ a, O a = true → H a ≠ none) → Ex Bs H → Ex Bi (vis O H) →
  (∀ i d, ds[i]? = some d → J.go i H ∧ ∀ x H2, J.yld i H x H2 → Ex H H2 ∧ Rp K (vis O H2) x d) ∧ ∀ i, ds.length ≤ i → J.stop i H
def DenI (K : PySem.W.Frag) (wi : TI) (f : Env → Option (List PyData)) : Prop := ∀ base O0 O σ H env ds, Sat K base O0 O σ H env → f env = some ds → ∀ R : It → Hp → Prop, (∀ J H', Ex H H' → ItOk K (vis O H') (vis O H') J ds → R J H') → wi σ H R
/-- .. that may be hidden (for a comprehension) -/
def DenIO (K : PySem.W.Frag) (wi : TI) (f : Env → Option (List PyData)) : Prop := ∀ base O0 O σ H env ds, Sat K base O0 O σ H env → f env = some ds → ∀ R : It → Hp → Prop, (∀ J H', Ex H H' → ItOk K H' (vis O H') J ds → R J H') → wi σ H R
section
variable {K : PySem.W.Frag} {te ta tb tx : TE} {tr : TA} {f fa fb : Env → Option PyData} {fr : Env → Option (List PyData)} {wi : TI} {fi : Env → Option (List PyData)}
theorem DenI.o (h : DenI K wi fi) : DenIO K wi fi := fun base O0 O σ H env ds S e R q => h base O0 O σ H env ds S e R fun J H' x it => q J H' x fun O2 H2 al e1 e2 => it O2 H2 al (vis_le.trans e1) e2
theorem sql_eq {H : Hp} {a : Addr} {vs : List V} (h : H a = some (.lst vs)) (hn : ∀ xs, SqL K H a xs → xs = vs) : True := trivial
/-- the items of a list that stands, item by item -/
theorem it_lst {Bs Bi : Hp} {a : Addr} {vs : List V} {ds : List PyData} (h : SqL K Bs a vs) (r : RpAll K Bi vs ds) : ItOk K Bs Bi (Itl K a) ds := fun O H al e1 e2 =>
  ⟨fun i d hd => by
    obtain ⟨v, hv, rv⟩ := r.get hd
    refine ⟨⟨vs, v, ex_l e1 h, hv⟩, fun x H2 y => ?_⟩
    obtain ⟨rfl, y⟩ := y
    have z := y vs (ex_l e1 h)
    rw [hv] at z
    cases z
    exact ⟨Ex.refl _, rv.mono e2⟩, fun i hi => ⟨vs, ex_l e1 h, by rw [r.length]; exact hi⟩⟩
theorem it_tup {Bs Bi : Hp} {a : Addr} {vs : List V} {ds : List PyData} (h : SqT K Bs a vs) (r : RpAll K Bi vs ds) : ItOk K Bs Bi (Itt K a) ds := fun O H al e1 e2 =>
  ⟨fun i d hd => by
    obtain ⟨v, hv, rv⟩ := r.get hd
    refine ⟨⟨vs, v, ex_t e1 h, hv⟩, fun x H2 y => ?_⟩
    obtain ⟨rfl, y⟩ := y
    have z := y vs (ex_t e1 h)
    rw [hv] at z
    cases z
    exact ⟨Ex.refl _, rv.mono e2⟩, fun i hi => ⟨vs, ex_t e1 h, by rw [r.length]; exact hi⟩⟩
def iLS (f : Env → Option PyData) : Env → Option (List PyData) := fun env => (f env).bind asLS
def asT : PyData → Option (List PyData)
  | .tuple ds => some ds
  | _ => none
def iT (f : Env → Option PyData) : Env → Option (List PyData) := fun env => (f env).bind asT
theorem den_ilo (h : Den K te f) : DenIO K (iList K te) (iLS f) := by
  intro base O0 O σ H env ds S e R q
  unfold iLS at e
  cases k1 : f env with
  | none => simp [k1] at e
  | some x =>
    simp only [k1, Option.bind_some] at e
    refine h base O0 O σ H env x S k1 _ fun v H1 x1 o1 => ?_
    obtain ⟨a, vs, rfl, hs, r⟩ := asLS_opd o1 e
    exact ⟨a, rfl, ⟨vs, hs⟩, q _ H1 x1 (it_lst hs r)⟩
theorem den_il (h : DenP K te f) : DenI K (iList K te) (iLS f) := by
  intro base O0 O σ H env ds S e R q
  unfold iLS at e
  cases k1 : f env with
  | none => simp [k1] at e
  | some x =>
    simp only [k1, Option.bind_some] at e
    refine h base O0 O σ H env x S k1 _ fun v H1 x1 o1 => ?_
    have no : Opd K (fun _ => false) (vis O H1) v x := .inl (o1.mono vis_no)
    obtain ⟨a, vs, rfl, hs, r⟩ := asLS_opd no e
    exact ⟨a, rfl, ⟨vs, ex_l vis_le hs⟩, q _ H1 x1 (it_lst hs (r.mono vis_le))⟩
theorem den_it (h : Den K te f) : DenI K (iTup K te) (iT f) := by
  intro base O0 O σ H env ds S e R q
  unfold iT at e
  cases k1 : f env with
  | none => simp [k1] at e
  | some x =>
    simp only [k1, Option.bind_some] at e
    refine h base O0 O σ H env x S k1 _ fun v H1 x1 o1 => ?_
    unfold asT at e
    split at e
    · cases e
      rcases o1 with o1 | ⟨_, _, _, _, _, _, z⟩ | ⟨_, z, _⟩
      · cases o1 with
        | tup hs r => exact ⟨_, rfl, ⟨_, ex_t vis_le hs⟩, q _ H1 x1 (it_tup hs r)⟩
      · cases z
      · cases z
    · cases e
/-- range(n) -/
def rgD (lo : Int) (n : Nat) : List PyData := (List.range n).map fun (i : Nat) => PyData.int (lo + (i : Int))
theorem it_rg {Bs Bi : Hp} {lo : Int} {n : Nat} : ItOk K Bs Bi (Itr lo n) (rgD lo n) := fun O2 H2 al e1 e2 => ⟨fun i d hd => by
    unfold rgD at hd
    rw [List.getElem?_map] at hd
    cases k2 : (List.range n)[i]? with
    | none => rw [k2] at hd; cases hd
    | some j =>
      rw [k2] at hd
      cases hd
      obtain ⟨hi1, hi2⟩ := List.getElem?_eq_some_iff.mp k2
      rw [List.length_range] at hi1
      rw [List.getElem_range] at hi2
      subst hi2
      refine ⟨hi1, fun x H3 y => ?_⟩
      obtain ⟨rfl, rfl⟩ := y
      exact ⟨Ex.refl _, .int _⟩, fun i hi => by
    unfold rgD at hi
    rw [List.length_map, List.length_range] at hi
    exact hi⟩
def iR1 (f : Env → Option (List PyData)) : Env → Option (List PyData) := fun env => (f env).bind fun
  | [.int n] => if -100000 ≤ n ∧ n ≤ 100000 then some (rgD 0 n.toNat) else none
  | _ => none
theorem den_ir1 (h : DenA K tr fr) : DenI K (iRng1 tr) (iR1 fr) := by
  intro base O0 O σ H env ds S e R q
  unfold iR1 at e
  cases k1 : fr env with
  | none => simp [k1] at e
  | some xs =>
    simp only [k1, Option.bind_some] at e
    split at e
    · split at e
      · cases e
        rename_i n hn
        refine h base O0 O σ H env _ S k1 _ fun vs H1 x1 r1 => ?_
        cases r1 with
        | cons o t =>
          cases t
          rw [o.int]
          exact ⟨n, rfl, by omega, by omega, q _ H1 x1 it_rg⟩
      · cases e
    · cases e
def iR2 (f : Env → Option (List PyData)) : Env → Option (List PyData) := fun env => (f env).bind fun
  | [.int m, .int n] => if -100000 ≤ n ∧ n ≤ 100000 ∧ -100000 ≤ m ∧ m ≤ 100000 then some (rgD m (n - m).toNat) else none
  | _ => none
theorem den_ir2 (h : DenA K tr fr) : DenI K (iRng2 tr) (iR2 fr) := by
  intro base O0 O σ H env ds S e R q
  unfold iR2 at e
  cases k1 : fr env with
  | none => simp [k1] at e
  | some xs =>
    simp only [k1, Option.bind_some] at e
    split at e
    · split at e
      · cases e
        rename_i m n hn
        refine h base O0 O σ H env _ S k1 _ fun vs H1 x1 r1 => ?_
        cases r1 with
        | cons o t =>
          cases t with
          | cons o2 t =>
            cases t
            rw [o.int, o2.int]
            exact ⟨m, n, rfl, ⟨by omega, by omega, by omega, by omega⟩, q _ H1 x1 it_rg⟩
      · cases e
    · cases e
/-- a text, sign by sign -/
def asSigns : PyData → Option (List PyData)
  | .str z => some (z.cps.toList.map fun c => .str ⟨#[c]⟩)
  | _ => none
def iS (f : Env → Option PyData) : Env → Option (List PyData) := fun env => (f env).bind asSigns
theorem den_is (h : Den K te f) : DenI K (iStr te) (iS f) := by
  intro base O0 O σ H env ds S e R q
  unfold iS at e
  cases k1 : f env with
  | none => simp [k1] at e
  | some x =>
    simp only [k1, Option.bind_some] at e
    refine h base O0 O σ H env x S k1 _ fun v H1 x1 o1 => ?_
    unfold asSigns at e
    split at e
    · cases e
      rename_i z
      refine ⟨z, o1.str, q _ H1 x1 fun O2 H2 al e1 e2 => ⟨fun i d hd => ?_, fun i hi => ?_⟩⟩
      · rw [List.getElem?_map] at hd
        cases k2 : z.cps.toList[i]? with
        | none => rw [k2] at hd; cases hd
        | some c =>
          rw [k2] at hd
          cases hd
          rw [Array.getElem?_toList] at k2
          refine ⟨(Array.getElem?_eq_some_iff.mp k2).1, fun x H3 y => ?_⟩
          obtain ⟨rfl, c2, hc, rfl⟩ := y
          rw [k2] at hc
          cases hc
          exact ⟨Ex.refl _, .str _⟩
      · rw [List.length_map, Array.length_toList] at hi
        exact hi
    · cases e
/-- reversed(xs) -/
def a1 (g : PyData → Option (List PyData)) (f : Env → Option (List PyData)) : Env → Option (List PyData) := fun env => (f env).bind fun
  | [d] => g d
  | _ => none
def iRv (f : Env → Option (List PyData)) : Env → Option (List PyData) := fun env => (a1 asLS f env).map List.reverse
theorem den_irv (h : DenAP K tr fr) : DenI K (iRev K tr) (iRv fr) := by
  intro base O0 O σ H env ds S e R q
  unfold iRv a1 at e
  cases k1 : fr env with
  | none => simp [k1] at e
  | some xs =>
    simp only [k1, Option.bind_some] at e
    split at e
    · rename_i d
      cases k2 : asLS d with
      | none => rw [k2] at e; cases e
      | some es =>
        rw [k2] at e
        cases e
        refine h base O0 O σ H env _ S k1 _ fun vs H1 x1 r1 => ?_
        cases r1 with
        | cons o t =>
          cases t
          have no : Opd K (fun _ => false) (vis O H1) _ d := .inl (o.mono vis_no)
          obtain ⟨a, vs, rfl, hs, r⟩ := asLS_opd no k2
          have r' : RpAll K (vis O H1) vs es := r.mono vis_le
          refine ⟨a, vs, rfl, ex_l vis_le hs, q _ H1 x1 fun O2 H2 al e1 e2 => ⟨fun i d hd => ?_, fun i hi => ?_⟩⟩
          · have hi := (List.getElem?_eq_some_iff.mp hd).1
            rw [List.length_reverse] at hi
            rw [List.getElem?_reverse hi] at hd
            obtain ⟨v, hv, rv⟩ := r'.get hd
            rw [← r'.length] at hv hi
            refine ⟨⟨hi, vs, v, ex_l e1 hs, hv⟩, fun x H3 y => ?_⟩
            obtain ⟨rfl, y⟩ := y
            have z := y vs (ex_l e1 hs)
            rw [hv] at z
            cases z
            exact ⟨Ex.refl _, rv.mono e2⟩
          · rw [List.length_reverse, ← r'.length] at hi
            exact hi
    · cases e
/-- enumerate(xs) -/
def numD : Nat → List PyData → List PyData
  | _, [] => []
  | n, d :: ds => .tuple [.int (n : Int), d] :: numD (n + 1) ds
theorem numD_at : ∀ (ds : List PyData) (n i : Nat), (numD n ds)[i]? = (ds[i]?).map fun d => .tuple [.int ((n + i : Nat) : Int), d]
  | [], n, i => by simp [numD]
  | d :: ds, n, 0 => by simp [numD]
  | d :: ds, n, i + 1 => by
    show (numD (n + 1) ds)[i]? = _
    rw [numD_at ds (n + 1) i, List.getElem?_cons_succ]
    have : n + 1 + i = n + (i + 1) := by omega
    rw [this]
theorem numD_len : ∀ (ds : List PyData) (n : Nat), (numD n ds).length = ds.length
  | [], n => rfl
  | d :: ds, n => congrArg Nat.succ (numD_len ds (n + 1))
def iEn (f : Env → Option (List PyData)) : Env → Option (List PyData) := fun env => (a1 asLS f env).map (numD 0)
theorem new_tup {O2 : Hid} {H2 : Hp} {T : Addr} {vs : List V} {ds : List PyData} (al : ∀ a, O2 a = true → H2 a ≠ none) (hT : H2 T = none) (r : RpAll K (vis O2 H2) vs ds) :
    Ex H2 (upd H2 T (.tup vs)) ∧ Rp K (vis O2 (upd H2 T (.tup vs))) (.ref T) (.tuple ds) := by
  have op : O2 T = false := by
    cases q : O2 T with
    | false => rfl
    | true => exact absurd hT (al T q)
  exact ⟨Ex.new hT, .tup (SqT.of (vis_at op upd_same)) (r.mono (vis_mono (Ex.new hT)))⟩
theorem den_ien (h : DenAP K tr fr) : DenI K (iEnum K tr) (iEn fr) := by
  intro base O0 O σ H env ds S e R q
  unfold iEn a1 at e
  cases k1 : fr env with
  | none => simp [k1] at e
  | some xs =>
    simp only [k1, Option.bind_some] at e
    split at e
    · rename_i d
      cases k2 : asLS d with
      | none => rw [k2] at e; cases e
      | some es =>
        rw [k2] at e
        cases e
        refine h base O0 O σ H env _ S k1 _ fun vs H1 x1 r1 => ?_
        cases r1 with
        | cons o t =>
          cases t
          have no : Opd K (fun _ => false) (vis O H1) _ d := .inl (o.mono vis_no)
          obtain ⟨a, vs, rfl, hs, r⟩ := asLS_opd no k2
          have r' : RpAll K (vis O H1) vs es := r.mono vis_le
          refine ⟨a, vs, rfl, ex_l vis_le hs, q _ H1 x1 fun O2 H2 al e1 e2 => ⟨fun i d hd => ?_, fun i hi => ?_⟩⟩
          · rw [numD_at] at hd
            cases k3 : es[i]? with
            | none => rw [k3] at hd; cases hd
            | some d2 =>
              rw [k3] at hd
              cases hd
              obtain ⟨v, hv, rv⟩ := r'.get k3
              refine ⟨⟨vs, v, ex_l e1 hs, hv⟩, fun x H3 y => ?_⟩
              obtain ⟨T, x2, rfl, hT, rfl, y⟩ := y
              have z := y vs (ex_l e1 hs)
              rw [hv] at z
              cases z
              rw [Nat.zero_add]
              exact new_tup al hT (.cons (.int _) (.cons (rv.mono e2) .nil))
          · rw [numD_len, ← r'.length] at hi
            exact ⟨vs, ex_l e1 hs, hi⟩
    · cases e
/-- zip(xs, ys) -/
def zipD : List PyData → List PyData → List PyData
  | x :: xs, y :: ys => .tuple [x, y] :: zipD xs ys
  | _, _ => []
theorem zipD_at : ∀ (xs ys : List PyData) (i : Nat) (d : PyData), (zipD xs ys)[i]? = some d → ∃ x y, xs[i]? = some x ∧ ys[i]? = some y ∧ d = .tuple [x, y]
  | [], ys, i, d, h => by simp [zipD] at h
  | x :: xs, [], i, d, h => by simp [zipD] at h
  | x :: xs, y :: ys, 0, d, h => by
    simp [zipD] at h
    exact ⟨x, y, rfl, rfl, h.symm⟩
  | x :: xs, y :: ys, i + 1, d, h => zipD_at xs ys i d h
theorem zipD_len : ∀ (xs ys : List PyData), (zipD xs ys).length = min xs.length ys.length
  | [], ys => by simp [zipD]
  | x :: xs, [] => by simp [zipD]
  | x :: xs, y :: ys => by
    show (zipD xs ys).length + 1 = _
    rw [zipD_len xs ys, List.length_cons, List.length_cons]
    omega
def iZp (f : Env → Option (List PyData)) : Env → Option (List PyData) := fun env => (f env).bind fun
  | [d, e] => (asLS d).bind fun xs => (asLS e).map fun ys => zipD xs ys
  | _ => none
theorem den_izp (h : DenAP K tr fr) : DenI K (iZip K tr) (iZp fr) := by
  intro base O0 O σ H env ds S e R q
  unfold iZp at e
  cases k1 : fr env with
  | none => simp [k1] at e
  | some xs =>
    simp only [k1, Option.bind_some] at e
    split at e
    · rename_i d1 d2
      cases k2 : asLS d1 with
      | none => simp [k2] at e
      | some es =>
        cases k3 : asLS d2 with
        | none => simp [k2, k3] at e
        | some fs =>
          simp only [k2, k3, Option.bind_some, Option.map_some] at e
          cases e
          refine h base O0 O σ H env _ S k1 _ fun vs H1 x1 r1 => ?_
          cases r1 with
          | cons o t =>
            cases t with
            | cons o2 t =>
              cases t
              have no : Opd K (fun _ => false) (vis O H1) _ d1 := .inl (o.mono vis_no)
              obtain ⟨a, vs, rfl, hs, r⟩ := asLS_opd no k2
              have no2 : Opd K (fun _ => false) (vis O H1) _ d2 := .inl (o2.mono vis_no)
              obtain ⟨b, ws, rfl, hs2, r2⟩ := asLS_opd no2 k3
              have r' : RpAll K (vis O H1) vs es := r.mono vis_le
              have r2' : RpAll K (vis O H1) ws fs := r2.mono vis_le
              refine ⟨a, b, vs, ws, rfl, ex_l vis_le hs, ex_l vis_le hs2, q _ H1 x1 fun O2 H2 al e1 e2 => ⟨fun i d hd => ?_, fun i hi => ?_⟩⟩
              · obtain ⟨x, y, hx, hy, rfl⟩ := zipD_at es fs i d hd
                obtain ⟨v, hv, rv⟩ := r'.get hx
                obtain ⟨w, hw, rw_⟩ := r2'.get hy
                refine ⟨⟨vs, ws, v, w, ex_l e1 hs, ex_l e1 hs2, hv, hw⟩, fun x H3 yy => ?_⟩
                obtain ⟨T, x2, y2, rfl, hT, rfl, y3, y4⟩ := yy
                have z := y3 vs (ex_l e1 hs)
                rw [hv] at z
                cases z
                have z2 := y4 ws (ex_l e1 hs2)
                rw [hw] at z2
                cases z2
                exact new_tup al hT (.cons (rv.mono e2) (.cons (rw_.mono e2) .nil))
              · rw [zipD_len] at hi
                exact ⟨vs, ws, ex_l e1 hs, ex_l e1 hs2, by rw [r'.length, r2'.length]; omega⟩
    · cases e

/-! ### targets -/
/-- a target: it sets slots of S alone -/
def DenG (K : PySem.W.Frag) (S : List Nat) (g : TG) (G : PyData → Env → Option Env) : Prop := ∀ base O0 O σ H env v d env', Sat K base O0 O σ H env → Rp K (vis O H) v d → G d env = some env' → ∀ Q : L2.St → Hp → Prop, (∀ σ', Sat K base O0 O σ' H env' → σ'.length = σ.length → (∀ i, i ∉ S → σ'[i]? = σ[i]?) → Q σ' H) → g v σ H Q
def DenGs (K : PySem.W.Frag) (S : List Nat) (g : TGs) (G : List PyData → Env → Option Env) : Prop := ∀ base O0 O σ H env vs ds env', Sat K base O0 O σ H env → RpAll K (vis O H) vs ds → G ds env = some env' → ∀ Q : L2.St → Hp → Prop, (∀ σ', Sat K base O0 O σ' H env' → σ'.length = σ.length → (∀ i, i ∉ S → σ'[i]? = σ[i]?) → Q σ' H) → g vs σ H Q
def tgN (i : Nat) : PyData → Env → Option Env := fun d env => some (env.set i (.sh d))
def tgNil : List PyData → Env → Option Env
  | [], env => some env
  | _ :: _, _ => none
def tgCons (g : PyData → Env → Option Env) (gs : List PyData → Env → Option Env) : List PyData → Env → Option Env
  | d :: ds, env => (g d env).bind (gs ds)
  | [], _ => none
def tgT (n : Nat) (gs : List PyData → Env → Option Env) : PyData → Env → Option Env := fun d env => match d with
  | .tuple ds => if ds.length = n then gs ds env else none
  | _ => none
theorem den_gn {i : Nat} {S : List Nat} (hi : i ∈ S) : DenG K S (gName i) (tgN i) := by
  intro base O0 O σ H env v d env' s r e Q q
  cases e
  exact q _ (s.set r) (List.length_set ..) fun j hj => List.getElem?_set_ne (fun (z : i = j) => hj (z ▸ hi))
theorem den_gnil {S : List Nat} : DenGs K S gNil tgNil := by
  intro base O0 O σ H env vs ds env' s r e Q q
  unfold tgNil at e
  split at e
  · cases e
    cases r
    exact ⟨rfl, q σ s rfl fun _ _ => rfl⟩
  · cases e
theorem den_gcons {S : List Nat} {g : TG} {gs : TGs} {G : PyData → Env → Option Env} {Gs : List PyData → Env → Option Env} (h : DenG K S g G) (hs : DenGs K S gs Gs) : DenGs K S (gCons g gs) (tgCons G Gs) := by
  intro base O0 O σ H env vs ds env' s r e Q q
  unfold tgCons at e
  split at e
  · rename_i d ds
    cases k : G d env with
    | none => simp [k] at e
    | some e1 =>
      simp only [k, Option.bind_some] at e
      cases r with
      | cons r t =>
        refine ⟨_, _, rfl, h base O0 O σ H env _ d e1 s r k _ fun σ1 s1 l1 o1 => ?_⟩
        exact hs base O0 O σ1 H e1 _ ds env' s1 t e Q fun σ2 s2 l2 o2 => q σ2 s2 (l2.trans l1) fun j hj => (o2 j hj).trans (o1 j hj)
  · cases e
theorem den_gtup {S : List Nat} {n : Nat} {gs : TGs} {Gs : List PyData → Env → Option Env} (hs : DenGs K S gs Gs) : DenG K S (gTup K n gs) (tgT n Gs) := by
  intro base O0 O σ H env v d env' s r e Q q
  unfold tgT at e
  split at e
  · split at e
    · cases r with
      | tup h ra => exact ⟨_, _, rfl, ex_t vis_le h, by rw [ra.length]; assumption, hs base O0 O σ H env _ _ env' s ra e Q q⟩
    · cases e
  · cases e

/-! ### comprehensions -/
def wipeE (env : Env) : List Nat → Env
  | [] => env
  | v :: vs => (wipeE env vs).set v .un
def lcGo (G : PyData → Env → Option Env) (t : Env → Option Bool) (f : Env → Option PyData) (env : Env) : List PyData → Option (List PyData)
  | [] => some []
  | x :: xs => (G x env).bind fun e1 => (t e1).bind fun b => if b then (f e1).bind fun d => (lcGo G t f env xs).map (d :: ·) else lcGo G t f env xs
def nLc (fi : Env → Option (List PyData)) (G : PyData → Env → Option Env) (t : Env → Option Bool) (f : Env → Option PyData) (vs : List Nat) : Env → Option (List PyData) := fun env => (fi env).bind fun xs => if xs.length ≤ 100000 then lcGo G t f (wipeE env vs) xs else none
theorem Sat.wipe {base : Hp} {O0 O : Hid} {σ : L2.St} {H : Hp} {env : Env} (S : Sat K base O0 O σ H env) : ∀ vs : List Nat, Sat K base O0 O (wipe σ vs) H (wipeE env vs)
  | [] => S
  | v :: vs => (S.wipe vs).un v
theorem wipe_in {σ : L2.St} {i : Nat} (hi : i < σ.length) : ∀ {vs : List Nat}, i ∈ vs → (wipe σ vs)[i]? = some none
  | v :: vs, h => by
    show ((wipe σ vs).set v none)[i]? = _
    by_cases e : v = i
    · subst e
      rw [List.getElem?_set_self (by rw [wipe_length]; exact hi)]
    · rw [List.getElem?_set_ne e]
      rcases List.mem_cons.mp h with h | h
      · exact absurd h.symm e
      · exact wipe_in hi h
theorem wipe_same {σ σ2 : L2.St} {vs : List Nat} (hl : σ2.length = (wipe σ vs).length) (h : ∀ i, i ∉ vs → σ2[i]? = (wipe σ vs)[i]?) : wipe σ2 vs = wipe σ vs := by
  have hl' : σ2.length = σ.length := by rw [hl, wipe_length]
  apply List.ext_getElem?
  intro i
  by_cases m : i ∈ vs
  · by_cases hi : i < σ.length
    · rw [wipe_in hi m, wipe_in (by omega) m]
    · rw [List.getElem?_eq_none (by rw [wipe_length]; omega), List.getElem?_eq_none (by rw [wipe_length]; omega)]
  · rw [wipe_out m, h i m]
/-- a new thing at D may change: it is hidden besides -/
theorem den_lc {wi : TI} {g : TG} {tt : TT} {fi : Env → Option (List PyData)} {G : PyData → Env → Option Env} {t : Env → Option Bool} {vs : List Nat}
    (hi : DenIO K wi fi) (hg : DenG K vs g G) (ht : DenT K tt t) (he : DenP K te f) : DenN K (tLc wi g tt te vs) (nLc fi G t f vs) := by
  intro base O0 O σ H env ds S e Q q
  unfold nLc at e
  cases k1 : fi env with
  | none => simp [k1] at e
  | some xs =>
    simp only [k1, Option.bind_some] at e
    split at e
    case isFalse => cases e
    rename_i hz
    refine hi base O0 O σ H env xs S k1 _ fun J H1 x1 it D hD => ?_
    have S1 := S.mono x1
    have bD : base D = none := S1.ex.free hD
    refine ⟨fun i m H' => ∃ acc done rest, Ex H1 H' ∧ H' D = some (.lst acc) ∧ RpAll K (vis (hid O D) H') acc done ∧ lcGo G t f (wipeE env vs) (xs.drop i) = some rest ∧ ds = done ++ rest ∧ m = xs.length - i ∧ acc.length ≤ i ∧ i ≤ xs.length, ⟨_, [], [], ds, Ex.new hD, upd_same, .nil, e, rfl, rfl, Nat.le_refl _, Nat.zero_le _⟩, fun i m H' hw => ?_⟩
    obtain ⟨acc, done, rest, e1, hacc, ra, eq, hds, rfl, hai, hix⟩ := hw
    have alD : ∀ a, hid O D a = true → H' a ≠ none := fun a ha z => by
      unfold hid at ha
      by_cases qa : O a = true
      · exact S1.all a qa (e1.free z)
      · have : a = D := by simpa [qa] using ha
        rw [this, hacc] at z
        cases z
    have S2 : Sat K base O0 (hid O D) (wipe σ vs) H' (wipeE env vs) := (S1.wipe vs).hide hD e1 (by rw [hacc]; exact fun z => nomatch z)
    have itH := it (hid O D) H' alD e1 (vis_hid hD e1)
    by_cases hlt : i < xs.length
    · refine .inr ?_
      have hx : xs[i]? = some xs[i] := List.getElem?_eq_getElem hlt
      obtain ⟨go, yl⟩ := itH.1 i _ hx
      rw [List.drop_eq_getElem_cons hlt] at eq
      unfold lcGo at eq
      cases kg : G xs[i] (wipeE env vs) with
      | none => simp [kg] at eq
      | some e2 =>
        simp only [kg, Option.bind_some] at eq
        cases kt : t e2 with
        | none => simp [kt] at eq
        | some b =>
          simp only [kt, Option.bind_some] at eq
          refine ⟨go, fun H2 => ∃ acc done rest, Ex H1 H2 ∧ H2 D = some (.lst acc) ∧ RpAll K (vis (hid O D) H2) acc done ∧ lcGo G t f (wipeE env vs) (xs.drop (i + 1)) = some rest ∧ ds = done ++ rest ∧ acc.length ≤ i + 1, fun H2 h => ?_, fun x H2 y => ?_⟩
          · obtain ⟨acc2, done2, rest2, a1, a2, a3, a4, a5, a6⟩ := h
            exact ⟨xs.length - (i + 1), by omega, acc2, done2, rest2, a1, a2, a3, a4, a5, rfl, a6, by omega⟩
          · obtain ⟨xe, rx⟩ := yl x H2 y
            refine hg base O0 (hid O D) (wipe σ vs) H2 (wipeE env vs) x xs[i] e2 (S2.mono xe) rx kg _ fun σ2 s2 l2 o2 => ⟨wipe_same l2 o2, ?_⟩
            refine ht base O0 (hid O D) σ2 H2 e2 b s2 kt _ fun H3 x3 => ?_
            have hD3 : H3 D = some (.lst acc) := x3 _ _ (xe _ _ hacc)
            cases b with
            | true =>
              show te σ2 H3 _
              rw [if_pos rfl] at eq
              cases kf : f e2 with
              | none => simp [kf] at eq
              | some d =>
                simp only [kf, Option.bind_some] at eq
                cases kr : lcGo G t f (wipeE env vs) (xs.drop (i + 1)) with
                | none => rw [kr] at eq; cases eq
                | some rest2 =>
                  rw [kr] at eq
                  cases eq
                  refine he base O0 (hid O D) σ2 H3 e2 d (s2.mono x3) kf _ fun v H4 x4 rv => ⟨acc, x4 _ _ hD3, ?_, acc ++ [v], done ++ [d], rest2, ?_, upd_same, ?_, rfl, by rw [hds, List.append_assoc]; rfl, by rw [List.length_append, List.length_singleton]; omega⟩
                  · have := big 100000 (Nat.le_refl _)
                    omega
                  · intro a o ha
                    rw [upd_ne (ne_of_none ha hD)]
                    exact x4 _ _ (x3 _ _ (xe _ _ (e1 _ _ ha)))
                  · rw [vis_upd (by unfold hid; simp)]
                    exact (ra.mono (vis_mono ((xe.trans x3).trans x4))).append (.cons rv .nil)
            | false =>
              show ∃ acc done rest, _
              rw [if_neg Bool.false_ne_true] at eq
              exact ⟨acc, done, rest, (e1.trans xe).trans x3, hD3, ra.mono (vis_mono (xe.trans x3)), eq, hds, by omega⟩
    · refine .inl ⟨itH.2 i (by omega), ?_⟩
      rw [List.drop_eq_nil_of_le (by omega)] at eq
      cases eq
      rw [List.append_nil] at hds
      subst hds
      exact q D acc H' (x1.free hD) (x1.trans e1) hacc ra
end
end PL
namespace PL
open PySem L2 PySem.Spec PyProof.Rows

inductive Out where
  | nx (e : Env) | rt (d : PyData) | br (e : Env) | ct (e : Env) | rtn (ds : List PyData)
/-- what must hold behind -/
def Post (K : PySem.W.Frag) (base : Hp) (O0 : Hid) (B : Hp) (D : Ends) : Out → Prop
  | .nx e => ∀ O σ H, Ex B (vis O H) → Sat K base O0 O σ H e → D.nx σ H
  | .br e => ∀ O σ H, Ex B (vis O H) → Sat K base O0 O σ H e → D.bk σ H
  | .ct e => ∀ O σ H, Ex B (vis O H) → Sat K base O0 O σ H e → D.ct σ H
  | .rt d => ∀ v H, Ex base H → Ex B (vis O0 H) → Rp K (vis O0 H) v d → D.rt v H
  | .rtn ds => ∀ p vs H, base p = none → Ex base H → Ex B (vis O0 H) → H p = some (.lst vs) → RpAll K (vis (hid O0 p) H) vs ds → D.rt (.ref p) H
def DenS (K : PySem.W.Frag) (ts : TS) (F : Env → Option Out) : Prop := ∀ base O0 O σ H env o (D : Ends), Sat K base O0 O σ H env → F env = some o → Post K base O0 (vis O H) D o → ts D σ H
section
variable {K : PySem.W.Frag} {base : Hp} {O0 O : Hid} {σ : L2.St} {H : Hp} {env : Env} {D : Ends}
theorem Post.mono {B B' : Hp} (e : Ex B B') {o : Out} (h : Post K base O0 B D o) : Post K base O0 B' D o := by
  cases o with
  | nx en => exact fun O σ H x S => h O σ H (e.trans x) S
  | br en => exact fun O σ H x S => h O σ H (e.trans x) S
  | ct en => exact fun O σ H x S => h O σ H (e.trans x) S
  | rt d => exact fun v H x y r => h v H x (e.trans y) r
  | rtn ds => exact fun p vs H b x y g r => h p vs H b x (e.trans y) g r
/-- what is hidden now, but was not at first, is new -/
theorem Sat.out (S : Sat K base O0 O σ H env) : Ex (vis O H) (vis O0 H) := fun a o h => by
  unfold vis at *
  by_cases q : O a = true
  · rw [if_pos q] at h
    cases h
  · rw [if_neg q] at h
    rw [if_neg (fun z => q (S.sub a z))]
    exact h
variable {te ta tb tx : TE} {tr : TA} {f fa fb : Env → Option PyData} {fr fn : Env → Option (List PyData)} {ts tu tw : TS} {F F2 F3 : Env → Option Out} {tt : TT} {t : Env → Option Bool}
def bindO (o : Out) (k : Env → Option Out) : Option Out := match o with
  | .nx e => k e
  | o => some o
def sSeq (F F2 : Env → Option Out) : Env → Option Out := fun env => (F env).bind fun o => bindO o F2
theorem dens_seq (h1 : DenS K ts F) (h2 : DenS K tu F2) : DenS K (tSeq ts tu) (sSeq F F2) := by
  intro base O0 O σ H env o D S e P
  unfold sSeq at e
  cases k : F env with
  | none => simp [k] at e
  | some o1 =>
    simp only [k, Option.bind_some] at e
    refine h1 base O0 O σ H env o1 _ S k ?_
    cases o1 with
    | nx en => exact fun O2 σ2 H2 x S2 => h2 base O0 O2 σ2 H2 en o D S2 e (P.mono x)
    | br en => cases e; exact P
    | ct en => cases e; exact P
    | rt d => cases e; exact P
    | rtn ds => cases e; exact P
def sNext : Env → Option Out := fun env => some (.nx env)
theorem dens_next : DenS K tNext sNext := by
  intro base O0 O σ H env o D S e P
  cases e
  exact P O σ H (Ex.refl _) S
def sBreak : Env → Option Out := fun env => some (.br env)
theorem dens_break : DenS K tBreak sBreak := by
  intro base O0 O σ H env o D S e P
  cases e
  exact P O σ H (Ex.refl _) S
def sCont : Env → Option Out := fun env => some (.ct env)
theorem dens_cont : DenS K tCont sCont := by
  intro base O0 O σ H env o D S e P
  cases e
  exact P O σ H (Ex.refl _) S
/-- x = e -/
def sAsg (f : Env → Option PyData) (G : PyData → Env → Option Env) : Env → Option Out := fun env => (f env).bind fun d => (G d env).map Out.nx
theorem dens_asg {S0 : List Nat} {g : TG} {G : PyData → Env → Option Env} (h : DenP K te f) (hg : DenG K S0 g G) : DenS K (tAsg te g) (sAsg f G) := by
  intro base O0 O σ H env o D S e P
  unfold sAsg at e
  cases k : f env with
  | none => simp [k] at e
  | some d =>
    cases k2 : G d env with
    | none => simp [k, k2] at e
    | some en =>
      simp only [k, k2, Option.bind_some, Option.map_some] at e
      cases e
      refine h base O0 O σ H env d S k _ fun v H1 x1 r => ?_
      exact hg base O0 O σ H1 env v d en (S.mono x1) r k2 _ fun σ2 s2 _ _ => P O σ2 H1 (vis_mono x1) s2
/-- x = a new list, which is to change -/
def sOwn (f : Env → Option (List PyData)) (i : Nat) : Env → Option Out := fun env => (f env).map fun ds => .nx (env.set i (.own ds))
theorem dens_own {i : Nat} (h : DenN K te fn) : DenS K (tAsg te (gName i)) (sOwn fn i) := by
  intro base O0 O σ H env o D S e P
  unfold sOwn at e
  cases k : fn env with
  | none => simp [k] at e
  | some ds =>
    simp only [k, Option.map_some] at e
    cases e
    exact h base O0 O σ H env ds S k _ fun p vs H1 hp x1 h1 r => P (hid O p) _ H1 (vis_hid hp x1) (S.setOwn hp x1 h1 r)
def sRet (f : Env → Option PyData) : Env → Option Out := fun env => (f env).map Out.rt
theorem dens_ret (h : DenP K te f) : DenS K (tRet te) (sRet f) := by
  intro base O0 O σ H env o D S e P
  unfold sRet at e
  cases k : f env with
  | none => simp [k] at e
  | some d =>
    simp only [k, Option.map_some] at e
    cases e
    refine h base O0 O σ H env d S k _ fun v H1 x1 r => ?_
    have S1 := S.mono x1
    exact P v H1 S1.ex ((vis_mono x1).trans S1.out) (r.mono S1.out)
/-- return x, x a list that was to change: all of its frame's are let go -/
def sRetO (i : Nat) : Env → Option Out := fun env => match env[i]? with
  | some (.own ds) => some (.rtn ds)
  | _ => none
theorem dens_reto {i : Nat} : DenS K (tRet (tVar i)) (sRetO i) := by
  intro base O0 O σ H env o D S e P
  unfold sRetO at e
  split at e
  · rename_i ds hi
    cases e
    obtain ⟨x, fp, hx, a, vs, rfl, _, oa, ba, h1, r⟩ := S.at_ hi
    have n0 : O0 a = false := by
      cases q : O0 a with
      | false => rfl
      | true => exact absurd ba (S.b0 a q)
    refine ⟨_, hx, P a vs H ba S.ex S.out h1 (r.mono fun b o hb => ?_)⟩
    have hb2 := S.out b o hb
    have nb : b ≠ a := fun z => by
      subst z
      unfold vis at hb
      rw [if_pos oa] at hb
      cases hb
    unfold vis at hb2 ⊢
    unfold hid
    by_cases q : O0 b = true
    · rw [if_pos q] at hb2
      cases hb2
    · have q' : O0 b = false := by simpa using q
      rw [if_neg q] at hb2
      rw [q']
      simpa [nb] using hb2
  · cases e
def sRetN (f : PL.Env → Option (List PyData)) : PL.Env → Option Out := fun env => (f env).map Out.rtn
theorem dens_retn (h : DenN K te fn) : DenS K (tRet te) (sRetN fn) := by
  intro base O0 O σ H env o D S e P
  unfold sRetN at e
  cases k : fn env with
  | none => simp [k] at e
  | some ds =>
    simp only [k, Option.map_some] at e
    cases e
    refine h base O0 O σ H env ds S k _ fun p vs H1 hp x1 h1 r => ?_
    have S1 := S.mono x1
    have bp : base p = none := S.ex.free hp
    refine P p vs H1 bp S1.ex ((vis_mono x1).trans S1.out) h1 (r.mono fun b o hb => ?_)
    have h2 := vis_le b o hb
    have nb : hid O p b = false := by
      cases z : hid O p b with
      | false => rfl
      | true =>
        unfold vis at hb
        rw [if_pos z] at hb
        cases hb
    refine vis_at ?_ h2
    unfold hid at nb ⊢
    rw [Bool.or_eq_false_iff] at nb ⊢
    refine ⟨?_, nb.2⟩
    cases z : O0 b with
    | false => rfl
    | true => rw [S.sub b z] at nb; cases nb.1
theorem dens_drop (h : DenP K te f) : DenS K (tDrop te) (fun env => (f env).map fun _ => .nx env) := by
  intro base O0 O σ H env o D S e P
  cases k : f env with
  | none => simp [k] at e
  | some d =>
    simp only [k, Option.map_some] at e
    cases e
    exact h base O0 O σ H env d S k _ fun v H1 x1 r => P O σ H1 (vis_mono x1) (S.mono x1)
def sIf (t : Env → Option Bool) (F F2 : Env → Option Out) : Env → Option Out := fun env => (t env).bind fun b => if b then F env else F2 env
theorem dens_if (ht : DenT K tt t) (h1 : DenS K ts F) (h2 : DenS K tu F2) : DenS K (tIfS tt ts tu) (sIf t F F2) := by
  intro base O0 O σ H env o D S e P
  unfold sIf at e
  cases k : t env with
  | none => simp [k] at e
  | some b =>
    simp only [k, Option.bind_some] at e
    refine ht base O0 O σ H env b S k _ fun H1 x1 => ?_
    cases b with
    | true =>
      show ts D σ H1
      exact h1 base O0 O σ H1 env o D (S.mono x1) (by simpa using e) (P.mono (vis_mono x1))
    | false =>
      show tu D σ H1
      exact h2 base O0 O σ H1 env o D (S.mono x1) (by simpa using e) (P.mono (vis_mono x1))
/-- xs.append(e) -/
def sApp (i : Nat) (f : Env → Option PyData) : Env → Option Out := fun env => match env[i]? with
  | some (.own ds) => (f env).bind fun d => if ds.length < 100000 then some (.nx (env.set i (.own (ds ++ [d])))) else none
  | _ => none
theorem dens_app {i : Nat} (h : DenP K te f) : DenS K (tDrop (tBM K "list" rAppend (tVar i) (tCons te tNil))) (sApp i f) := by
  intro base O0 O σ H env o D S e P
  unfold sApp at e
  split at e
  · rename_i ds hi
    cases k : f env with
    | none => simp [k] at e
    | some d =>
      simp only [k, Option.bind_some] at e
      split at e
      case isFalse => cases e
      cases e
      obtain ⟨x, fp, hx, a, vs, rfl, _, oa, ba, h1, r⟩ := S.at_ hi
      refine ⟨_, hx, Or.inl ⟨rfl, vs, SqL.of h1⟩, ?_⟩
      refine h base O0 O σ H env d S k _ fun v H1 x1 rv => ⟨a, vs, v, rfl, rfl, x1 _ _ h1, ?_, ?_⟩
      · rw [r.length]
        have := big 100000 (Nat.le_refl _)
        omega
      · obtain ⟨hv, S2⟩ := (S.mono x1).mut (vs := vs ++ [v]) (es := ds ++ [d]) hi hx ((r.mono (vis_mono x1)).append (.cons rv .nil))
        exact P O σ _ (by rw [hv]; exact vis_mono x1) S2
  · cases e
/-- xs.extend(e), e a list -/
def sExt (i : Nat) (f : Env → Option PyData) : Env → Option Out := fun env => match env[i]? with
  | some (.own ds) => (f env).bind fun d => (asL d).bind fun es => if ds.length + es.length ≤ 100000 then some (.nx (env.set i (.own (ds ++ es)))) else none
  | _ => none
theorem dens_ext {i : Nat} (h : DenP K te f) : DenS K (tDrop (tBM K "list" rExtend (tVar i) (tCons te tNil))) (sExt i f) := by
  intro base O0 O σ H env o D S e P
  unfold sExt at e
  split at e
  · rename_i ds hi
    cases k : f env with
    | none => simp [k] at e
    | some d =>
      simp only [k, Option.bind_some] at e
      cases k2 : asL d with
      | none => simp [k2] at e
      | some es =>
        simp only [k2, Option.bind_some] at e
        split at e
        case isFalse => cases e
        rename_i hz
        cases e
        obtain ⟨x, fp, hx, a, vs, rfl, _, oa, ba, h1, r⟩ := S.at_ hi
        refine ⟨_, hx, Or.inl ⟨rfl, vs, SqL.of h1⟩, ?_⟩
        refine h base O0 O σ H env d S k _ fun v H1 x1 rv => ?_
        obtain ⟨b, ws, rfl, h2, r2⟩ := asL_opd (K := K) (O := fun _ => false) (.inl (rv.mono vis_no)) k2
        refine ⟨a, b, vs, ws, rfl, rfl, x1 _ _ h1, vis_le _ _ h2, ?_, ?_⟩
        · rw [r.length, r2.length]
          exact big _ hz
        · obtain ⟨hv, S2⟩ := (S.mono x1).mut (vs := vs ++ ws) (es := ds ++ es) hi hx ((r.mono (vis_mono x1)).append (r2.mono vis_le))
          exact P O σ _ (by rw [hv]; exact vis_mono x1) S2
  · cases e
/-- a list that was to change stays as it is from here on -/
def frE (i : Nat) (env : Env) : Option Env := match env[i]? with
  | some (.own ds) => some (env.set i (.sh (.list ds)))
  | _ => none
theorem Sat.free {i : Nat} {e2 : PL.Env} (S : Sat K base O0 O σ H env) (h : frE i env = some e2) : ∃ O', Ex (vis O H) (vis O' H) ∧ Sat K base O0 O' σ H e2 := by
  unfold frE at h
  split at h
  · rename_i ds hi
    cases h
    exact S.let_ hi
  · cases h
def sFree (i : Nat) (F : Env → Option Out) : Env → Option Out := fun env => (frE i env).bind F
theorem dens_free {i : Nat} (h : DenS K ts F) : DenS K ts (sFree i F) := by
  intro base O0 O σ H env o D S e P
  unfold sFree at e
  cases k : frE i env with
  | none => simp [k] at e
  | some e2 =>
    simp only [k, Option.bind_some] at e
    obtain ⟨O', hv, S2⟩ := S.free k
    exact h base O0 O' σ H e2 o D S2 e (P.mono hv)
/-! ### for -/
def fGo (G : PyData → Env → Option Env) (F : Env → Option Out) : List PyData → Env → Option Out
  | [], env => some (.nx env)
  | x :: xs, env => (G x env).bind fun e1 => (F e1).bind fun
    | .nx e => fGo G F xs e
    | .ct e => fGo G F xs e
    | .br e => some (.nx e)
    | .rt d => some (.rt d)
    | .rtn ds => some (.rtn ds)
def sFor (fi : Env → Option (List PyData)) (G : PyData → Env → Option Env) (F : Env → Option Out) : Env → Option Out := fun env => (fi env).bind fun xs => fGo G F xs env
theorem dens_for {wi : TI} {g : TG} {S0 : List Nat} {fi : Env → Option (List PyData)} {G : PyData → Env → Option Env} (hi : DenI K wi fi) (hg : DenG K S0 g G) (hb : DenS K ts F) : DenS K (tFor wi g ts) (sFor fi G F) := by
  intro base O0 O σ H env o D S e P
  unfold sFor at e
  cases k : fi env with
  | none => simp [k] at e
  | some xs =>
    simp only [k, Option.bind_some] at e
    refine hi base O0 O σ H env xs S k _ fun J H1 x1 it => ?_
    refine ⟨fun i m σ' H' => ∃ O' en, Ex (vis O H1) (vis O' H') ∧ Sat K base O0 O' σ' H' en ∧ fGo G F (xs.drop i) en = some o ∧ m = xs.length - i, ⟨_, O, env, Ex.refl _, S.mono x1, e, rfl⟩, fun i m σ' H' hw => ?_⟩
    obtain ⟨O', en, y1, S1, eq, rfl⟩ := hw
    have itH := it O' H' S1.all (y1.trans vis_le) y1
    have P1 : Post K base O0 (vis O' H') D o := P.mono ((vis_mono x1).trans y1)
    by_cases hlt : i < xs.length
    · refine .inr ?_
      obtain ⟨go, yl⟩ := itH.1 i _ (List.getElem?_eq_getElem hlt)
      rw [List.drop_eq_getElem_cons hlt] at eq
      unfold fGo at eq
      cases kg : G xs[i] en with
      | none => simp [kg] at eq
      | some e2 =>
        simp only [kg, Option.bind_some] at eq
        cases kf : F e2 with
        | none => simp [kf] at eq
        | some o2 =>
          simp only [kf, Option.bind_some] at eq
          refine ⟨go, fun σ2 H2 => ∃ O2 e3, Ex (vis O H1) (vis O2 H2) ∧ Sat K base O0 O2 σ2 H2 e3 ∧ fGo G F (xs.drop (i + 1)) e3 = some o, fun σ2 H2 h => ?_, fun x H2 y => ?_⟩
          · obtain ⟨O2, e3, a1, a2, a3⟩ := h
            exact ⟨xs.length - (i + 1), by omega, O2, e3, a1, a2, a3, rfl⟩
          · obtain ⟨xe, rx⟩ := yl x H2 y
            refine hg base O0 O' σ' H2 en x xs[i] e2 (S1.mono xe) rx kg _ fun σ2 s2 _ _ => ?_
            refine hb base O0 O' σ2 H2 e2 o2 _ s2 kf ?_
            have P2 := P1.mono (vis_mono xe)
            cases o2 with
            | nx e3 => exact fun O2 σ3 H3 z S3 => ⟨O2, e3, (y1.trans (vis_mono xe)).trans z, S3, eq⟩
            | ct e3 => exact fun O2 σ3 H3 z S3 => ⟨O2, e3, (y1.trans (vis_mono xe)).trans z, S3, eq⟩
            | br e3 => cases eq; exact P2
            | rt d => cases eq; exact P2
            | rtn ds => cases eq; exact P2
    · refine .inl ⟨itH.2 i (by omega), ?_⟩
      rw [List.drop_eq_nil_of_le (by omega)] at eq
      cases eq
      exact P1 O' σ' H' (Ex.refl _) S1
end

/-! ### a def's promise: it gives f of its arguments -/
def spD (K : PySem.W.Frag) (n : Nat) (f : List PyData → Option PyData) : Sp := fun vs H Q _ => ∃ (O : Hid) (ds : List PyData) (d : PyData), vs.length = n ∧ (∀ a, O a = true → H a ≠ none) ∧ RpAll K (vis O H) vs ds ∧ f ds = some d ∧ ∀ v H', Ex H H' → Ex (vis O H) (vis O H') → Rp K (vis O H') v d → Q v H'
def fEnv (n : Nat) (ds : List PyData) : Env := ds.map .sh ++ List.replicate (n - ds.length) .un
def outD : Option Out → Option PyData
  | some (.rt d) => some d
  | some (.nx _) => some .none
  | some (.rtn ds) => some (.list ds)
  | _ => none
/-- what a body gives of its arguments; n: how many names there are -/
def fnD (n : Nat) (F : Env → Option Out) : List PyData → Option PyData := fun ds => outD (F (fEnv n ds))
section
variable {K : PySem.W.Frag}
theorem sat_start {O : Hid} {H : Hp} {vs : List V} {ds : List PyData} {N : List Str} (al : ∀ a, O a = true → H a ≠ none) (r : RpAll K (vis O H) vs ds) (hn : vs.length ≤ N.length) : Sat K H O O (L2.start N vs) H (fEnv N.length ds) := by
  have hl := r.length
  refine ⟨fun _ => [], Ex.refl _, fun a h => .inl h, al, fun a h => h, al, ?_, fun i x s h1 h2 => ?_, fun _ _ => rfl, fun _ _ _ _ h _ => nomatch h⟩
  · unfold L2.start fEnv
    rw [List.length_append, List.length_append, List.length_map, List.length_map, List.length_replicate, List.length_replicate, hl]
  · unfold L2.start at h1
    unfold fEnv at h2
    by_cases hi : i < vs.length
    · rw [List.getElem?_append_left (by rw [List.length_map]; exact hi), List.getElem?_map] at h1
      rw [List.getElem?_append_left (by rw [List.length_map, ← hl]; exact hi), List.getElem?_map] at h2
      cases q : ds[i]? with
      | none => rw [q] at h2; cases h2
      | some d =>
        rw [q] at h2
        cases h2
        obtain ⟨v, hv, rv⟩ := r.get q
        rw [hv] at h1
        cases h1
        exact ⟨⟨v, rfl, rv⟩, rfl⟩
    · rw [List.getElem?_append_right (by rw [List.length_map]; omega), List.getElem?_replicate] at h1
      rw [List.getElem?_append_right (by rw [List.length_map, ← hl]; omega), List.getElem?_replicate] at h2
      split at h1
      · cases h1
        split at h2
        · cases h2
          exact ⟨rfl, rfl⟩
        · cases h2
      · cases h1
/-- a def of which a plain function tells all -/
theorem fn_den {P : Program} {w : World} {mg : Str → Option Value} {base : Heap} {x qual : Str} {st : Stmt} {f : Addr} {fd : FuncData} {N ps : List Str} {k : Nat} {F : Env → Option Out} (Fu : Fun K x qual st f fd) (S : FnScope N ps (defScope st)) (hn : ps.length ≤ N.length)
    (hb : ∀ (cdv : Value) (A : Around) (outer : List PySem.Env) (s : Shared) (H : Hp) (E : XK), Room k (A.deeper (envOfC qual (defScope st) s.heap.objs.size f cdv)) →
      ∃ t, PSs (cxOf CX0 P w K mg base N qual (defScope st) f cdv A outer s H E).nox (defBody st) t ∧ DenS K t F) : FnOk P w K mg base CX0 (k + 1) f fd ps (spD K ps.length (fnD N.length F)) := by
  refine Fu.ok S (fun vs H Q E h => ?_) (fun cdv A outer s H vs Q E hr h => ?_)
  · obtain ⟨O, ds, d, hl, _⟩ := h
    exact hl
  · obtain ⟨O, ds, d, hl, al, r, hf, q⟩ := h
    obtain ⟨t, pt, dt⟩ := hb cdv A outer s H E hr
    refine ⟨t, pt, ?_⟩
    unfold fnD at hf
    cases k1 : F (fEnv N.length ds) with
    | none => rw [k1] at hf; cases hf
    | some o =>
      rw [k1] at hf
      refine dt H O O (L2.start N vs) H (fEnv N.length ds) o _ (sat_start al r (by omega)) k1 ?_
      cases o with
      | nx e =>
        cases hf
        exact fun O2 σ2 H2 x S2 => q _ H2 S2.ex (x.trans S2.out) .non
      | br e => cases hf
      | ct e => cases hf
      | rt d =>
        cases hf
        exact fun v H2 x y r2 => q v H2 x y r2
      | rtn ds2 =>
        cases hf
        refine fun p vs2 H2 b x y g r2 => q _ H2 x y (.lst (vis_at ?_ g) (r2.mono hid_le))
        cases z : O p with
        | false => rfl
        | true => exact absurd b (al p z)
/-- such a def called -/
theorem den_call {n : Nat} {g : List PyData → Option PyData} {E : XK} {tr : TA} {fr : Env → Option (List PyData)} (h : DenAP K tr fr) : DenP K (tCall (spD K n g) [] E tr) (eA (fun ds => if ds.length = n then g ds else none) fr) := by
  intro base O0 O σ H env d S e Q q
  unfold eA at e
  cases k1 : fr env with
  | none => simp [k1] at e
  | some xs =>
    simp only [k1, Option.bind_some] at e
    split at e
    case isFalse => cases e
    rename_i hn
    refine h base O0 O σ H env xs S k1 _ fun vs H1 x1 r => ?_
    show spD K n g (vs ++ []) H1 Q E
    rw [List.append_nil]
    exact ⟨O, xs, d, by rw [r.length]; exact hn, (S.mono x1).all, r, e, fun v H2 x2 _ r2 => q v H2 (x1.trans x2) r2⟩
/-- .. that hands back a new list -/
def spN (K : PySem.W.Frag) (n : Nat) (f : List PyData → Option (List PyData)) : Sp := fun vs H Q _ => ∃ (O : Hid) (ds es : List PyData), vs.length = n ∧ (∀ a, O a = true → H a ≠ none) ∧ RpAll K (vis O H) vs ds ∧ f ds = some es ∧ ∀ p ws H', H p = none → Ex H H' → H' p = some (.lst ws) → RpAll K (vis (hid O p) H') ws es → Q (.ref p) H'
def fnN (n : Nat) (F : PL.Env → Option Out) : List PyData → Option (List PyData) := fun ds => match F (fEnv n ds) with
  | some (.rtn es) => some es
  | _ => none
theorem fnN_fnD {n : Nat} {F : PL.Env → Option Out} {ds es : List PyData} (h : fnN n F ds = some es) : fnD n F ds = some (.list es) := by
  unfold fnN at h
  unfold fnD outD
  split at h
  · rename_i e
    rw [e]
    cases h
    rfl
  · cases h
theorem fn_denN {P : Program} {w : World} {mg : Str → Option Value} {base : Heap} {x qual : Str} {st : Stmt} {f : Addr} {fd : FuncData} {N ps : List Str} {k : Nat} {F : PL.Env → Option Out} (Fu : Fun K x qual st f fd) (S : FnScope N ps (defScope st)) (hn : ps.length ≤ N.length)
    (hb : ∀ (cdv : Value) (A : Around) (outer : List PySem.Env) (s : Shared) (H : Hp) (E : XK), Room k (A.deeper (envOfC qual (defScope st) s.heap.objs.size f cdv)) →
      ∃ t, PSs (cxOf CX0 P w K mg base N qual (defScope st) f cdv A outer s H E).nox (defBody st) t ∧ DenS K t F) : FnOk P w K mg base CX0 (k + 1) f fd ps (spN K ps.length (fnN N.length F)) := by
  refine Fu.ok S (fun vs H Q E h => ?_) (fun cdv A outer s H vs Q E hr h => ?_)
  · obtain ⟨O, ds, d, hl, _⟩ := h
    exact hl
  · obtain ⟨O, ds, es, hl, al, r, hf, q⟩ := h
    obtain ⟨t, pt, dt⟩ := hb cdv A outer s H E hr
    refine ⟨t, pt, ?_⟩
    unfold fnN at hf
    split at hf
    · rename_i es2 k1
      cases hf
      exact dt H O O (L2.start N vs) H (fEnv N.length ds) _ _ (sat_start al r (by omega)) k1 fun p vs2 H2 b x y g r2 => q p vs2 H2 b x g r2
    · cases hf
theorem den_callN {n : Nat} {g : List PyData → Option (List PyData)} {E : XK} {tr : TA} {fr : PL.Env → Option (List PyData)} (h : DenAP K tr fr) : DenN K (tCall (spN K n g) [] E tr) (fun env => (fr env).bind fun ds => if ds.length = n then g ds else none) := by
  intro base O0 O σ H env d S e Q q
  cases k1 : fr env with
  | none => simp [k1] at e
  | some xs =>
    simp only [k1, Option.bind_some] at e
    split at e
    case isFalse => cases e
    rename_i hn
    refine h base O0 O σ H env xs S k1 _ fun vs H1 x1 r => ?_
    show spN K n g (vs ++ []) H1 Q E
    rw [List.append_nil]
    exact ⟨O, xs, d, by rw [r.length]; exact hn, (S.mono x1).all, r, e, fun p ws H2 hp x2 g2 r2 => q p ws H2 (x1.free hp) (x1.trans x2) g2 r2⟩
end
end PL
namespace PL
open PySem L2 PySem.Spec PyProof.Rows

/-! ### a piece of the program and what it gives -/
structure EP (K : PySem.W.Frag) (X : Cx) (e : Expr) (t : TE) (f : Env → Option PyData) : Prop where
  pe : PE X e t
  de : DenP K t f
structure EO (K : PySem.W.Frag) (X : Cx) (e : Expr) (t : TE) (f : Env → Option PyData) : Prop where
  pe : PE X e t
  de : Den K t f
structure EN (K : PySem.W.Frag) (X : Cx) (e : Expr) (t : TE) (f : Env → Option (List PyData)) : Prop where
  pe : PE X e t
  de : DenN K t f
structure ET (K : PySem.W.Frag) (X : Cx) (e : Expr) (t : TT) (f : Env → Option Bool) : Prop where
  pe : PT X e t
  de : DenT K t f
structure EA (K : PySem.W.Frag) (X : Cx) (es : List Expr) (t : TA) (f : Env → Option (List PyData)) : Prop where
  pe : PA X es t
  de : DenA K t f
structure EB (K : PySem.W.Frag) (X : Cx) (es : List Expr) (t : TA) (f : Env → Option (List PyData)) : Prop where
  pe : PA X es t
  de : DenAP K t f
structure EI (K : PySem.W.Frag) (X : Cx) (tg e : Expr) (t : TI) (f : Env → Option (List PyData)) : Prop where
  pe : PI X tg e t
  de : DenI K t f
structure EJ (K : PySem.W.Frag) (X : Cx) (tg e : Expr) (t : TI) (f : Env → Option (List PyData)) : Prop where
  pe : PI X tg e t
  de : DenIO K t f
structure EG (K : PySem.W.Frag) (X : Cx) (S : List Nat) (e : Expr) (g : TG) (G : PyData → Env → Option Env) : Prop where
  pe : PG X e g
  de : DenG K S g G
structure EGs (K : PySem.W.Frag) (X : Cx) (S : List Nat) (e : List Expr) (g : TGs) (G : List PyData → Env → Option Env) : Prop where
  pe : PGs X e g
  de : DenGs K S g G
structure ES (K : PySem.W.Frag) (X : Cx) (st : Stmt) (t : TS) (F : Env → Option Out) : Prop where
  pe : PS X st t
  de : DenS K t F
structure EK (K : PySem.W.Frag) (X : Cx) (st : List Stmt) (t : TS) (F : Env → Option Out) : Prop where
  pe : PSs X st t
  de : DenS K t F
structure EQ (K : PySem.W.Frag) (X : Cx) (e : Option Expr) (t : TO) (f : Env → Option (Option Int)) : Prop where
  pe : PO X e t
  de : DenO K t f
section
variable {K : PySem.W.Frag} {X : Cx} {e a b c : Expr} {te ta tb : TE} {f fa fb : Env → Option PyData} {fn : Env → Option (List PyData)} {pos : Pos}
theorem EP.o (h : EP K X e te f) : EO K X e te f := ⟨h.pe, h.de.o⟩
theorem EN.p (h : EN K X e te fn) : EP K X e te (eL fn) := ⟨h.pe, h.de.p⟩
theorem EN.o (h : EN K X e te fn) : EO K X e te (eL fn) := h.p.o
theorem vP (i : Nat) {x : Str} (hN : X.N[i]? = some x := by rfl) (hv : Vis X.env.scope x := by first | exact Or.inl rfl | exact Or.inr (Or.inl rfl) | exact Or.inr (Or.inr rfl)) (hd : (x == ("__debug__" : Str)) = false := by decide)
    (hcd : (x == ("__classdict__" : Str)) = false := by decide) : EP K X (.Name x pos) (tVar i) (eVar i) := ⟨pe_var hN hv hd hcd, denP_var⟩
theorem vO (i : Nat) {x : Str} (hN : X.N[i]? = some x := by rfl) (hv : Vis X.env.scope x := by first | exact Or.inl rfl | exact Or.inr (Or.inl rfl) | exact Or.inr (Or.inr rfl)) (hd : (x == ("__debug__" : Str)) = false := by decide)
    (hcd : (x == ("__classdict__" : Str)) = false := by decide) : EO K X (.Name x pos) (tVar i) (eVarO i) := ⟨pe_var hN hv hd hcd, den_var⟩
theorem cI {i : Int} {j} : EP K X (.Constant (.int i) j pos) (tC (.int i)) (eC (.int i)) := ⟨pe_int, den_int⟩
theorem cB {i : Bool} {j} : EP K X (.Constant (.bool i) j pos) (tC (.bl i)) (eC (.bool i)) := ⟨pe_bl, den_bl⟩
theorem cN {j} : EP K X (.Constant .none j pos) (tC .non) (eC .none) := ⟨pe_non, den_non⟩
theorem cS {i : Str} {j} : EP K X (.Constant (.str i) j pos) (tC (.str i)) (eC (.str i)) := ⟨pe_str, den_str⟩
theorem op_or {g : Value → Value → Sem Value} {r r' : R2} (h : OpR X g r) (h' : OpR X g r') : OpR X g (fun x y H Q => r x y H Q ∨ r' x y H Q) := by
  intro pins s σ H x y v u Q I rx ry q
  rcases q with q | q
  · exact h pins s σ H x y v u Q I rx ry q
  · exact h' pins s σ H x y v u Q I rx ry q
theorem bAdd (ha : EO K X a ta fa) (hb : EO K X b tb fb) : EP K X (.BinOp a .Add b pos) (tOp rAddU ta tb) (e2 gAdd fa fb) := ⟨pe_op (op_or op_add op_add_str) ha.pe hb.pe, den_op ok_add ha.de hb.de⟩
theorem bSub (ha : EO K X a ta fa) (hb : EO K X b tb fb) : EP K X (.BinOp a .Sub b pos) (tOp (rI0 fun i j => .int (i - j)) ta tb) (e2 (gI (· - ·)) fa fb) := ⟨pe_op op_sub ha.pe hb.pe, den_op ok_I ha.de hb.de⟩
theorem bMul (ha : EO K X a ta fa) (hb : EO K X b tb fb) : EP K X (.BinOp a .Mult b pos) (tOp (rI CMul fun i j => .int (i * j)) ta tb) (e2 (gIC cMul (· * ·)) fa fb) := ⟨pe_op op_mul ha.pe hb.pe, den_op (ok_IC c_mul) ha.de hb.de⟩
theorem bDiv (ha : EO K X a ta fa) (hb : EO K X b tb fb) : EP K X (.BinOp a .FloorDiv b pos) (tOp (rI CDiv fun i j => .int (i / j)) ta tb) (e2 (gIC cDiv (· / ·)) fa fb) := ⟨pe_op op_fdiv ha.pe hb.pe, den_op (ok_IC c_div) ha.de hb.de⟩
theorem bMod (ha : EO K X a ta fa) (hb : EO K X b tb fb) : EP K X (.BinOp a .Mod b pos) (tOp (rI (fun _ j => 0 < j) fun i j => .int (i % j)) ta tb) (e2 (gIC cMod (· % ·)) fa fb) := ⟨pe_op op_mod ha.pe hb.pe, den_op (ok_IC c_mod) ha.de hb.de⟩
theorem uNeg (ha : EO K X a ta fa) : EP K X (.UnaryOp .USub a pos) (tUn (rU fun i => .int (-i)) ta) (e1 gNeg fa) := ⟨pe_un un_neg ha.pe, den_neg ha.de⟩
/-- a comparison: its operator's rule, what it is of data, that its right side has no mark -/
theorem cmp {op : CmpOp} {r : R2} {g : PyData → PyData → Option PyData} (ho : OpR X (compareOp op) r ∧ Ok2 K r g) (ha : EO K X a ta fa) (hb : EO K X b tb fb) (hm : behindInMarks op b = false := by rfl) (hK : X.K = K := by rfl) : EP K X (.Compare a [op] [b] pos) (tOp r ta tb) (e2 g fa fb) := by
  subst hK
  exact ⟨pe_cmpR ho.1 ha.pe hb.pe hm, den_op ho.2 ha.de hb.de⟩
theorem tcmp {op : CmpOp} {r : R2} {g : PyData → PyData → Option PyData} (ho : OpR X (compareOp op) r ∧ Ok2 K r g) (ha : EO K X a ta fa) (hb : EO K X b tb fb) (hm : behindInMarks op b = false := by rfl) (hK : X.K = K := by rfl) : ET K X (.Compare a [op] [b] pos) (tTest (tOp r ta tb)) (tE (e2 g fa fb)) := by
  subst hK
  exact ⟨pt_cmpR ho.1 ha.pe hb.pe hm, den_test (den_op ho.2 ha.de hb.de).o⟩
theorem kLt (hK : X.K = K := by rfl) : OpR X (compareOp .Lt) (rI0 fun i j => .bl (decide (i < j))) ∧ Ok2 K (rI0 fun i j => .bl (decide (i < j))) (gB fun i j => decide (i < j)) := by
  subst hK
  exact ⟨op_lt, ok_B⟩
theorem kLe (hK : X.K = K := by rfl) : OpR X (compareOp .LtE) (rI0 fun i j => .bl (decide (i ≤ j))) ∧ Ok2 K (rI0 fun i j => .bl (decide (i ≤ j))) (gB fun i j => decide (i ≤ j)) := by
  subst hK
  exact ⟨op_le, ok_B⟩
theorem kGt (hK : X.K = K := by rfl) : OpR X (compareOp .Gt) (rI0 fun i j => .bl (decide (j < i))) ∧ Ok2 K (rI0 fun i j => .bl (decide (j < i))) (gB fun i j => decide (j < i)) := by
  subst hK
  exact ⟨op_gt, ok_B⟩
theorem kGe (hK : X.K = K := by rfl) : OpR X (compareOp .GtE) (rI0 fun i j => .bl (decide (j ≤ i))) ∧ Ok2 K (rI0 fun i j => .bl (decide (j ≤ i))) (gB fun i j => decide (j ≤ i)) := by
  subst hK
  exact ⟨op_ge, ok_B⟩
theorem kEq (hu : X.A.units + 65 < cLine) (hK : X.K = K := by rfl) : OpR X (compareOp .Eq) (rEqD K) ∧ Ok2 K (rEqD K) gEq := by
  subst hK
  exact ⟨op_eqD (by omega), ok_eq⟩
theorem kNe (hu : X.A.units + 65 < cLine) (hK : X.K = K := by rfl) : OpR X (compareOp .NotEq) (rNeD K) ∧ Ok2 K (rNeD K) gNe := by
  subst hK
  exact ⟨op_neD (by omega), ok_ne⟩
theorem kInL (hu : X.A.units + 65 < cLine) (hK : X.K = K := by rfl) : OpR X (compareOp .In) (rInD K) ∧ Ok2 K (rInD K) (gInL false) := by
  subst hK
  exact ⟨op_inD hu, ok_inL⟩
theorem kNiL (hu : X.A.units + 65 < cLine) (hK : X.K = K := by rfl) : OpR X (compareOp .NotIn) (rNotInD K) ∧ Ok2 K (rNotInD K) (gInL true) := by
  subst hK
  exact ⟨op_notInD hu, ok_niL⟩
theorem kInT (hK : X.K = K := by rfl) : OpR X (compareOp .In) (rIn K false) ∧ Ok2 K (rIn K false) (gInT false) := by
  subst hK
  exact ⟨op_in_seq, ok_inT⟩
theorem kNiT (hK : X.K = K := by rfl) : OpR X (compareOp .NotIn) (rIn K true) ∧ Ok2 K (rIn K true) (gInT true) := by
  subst hK
  exact ⟨op_notIn_seq, ok_niT⟩
theorem kInS (hK : X.K = K := by rfl) : OpR X (compareOp .In) rInS1 ∧ Ok2 K rInS1 (gInS false) := by
  subst hK
  exact ⟨op_in_sign, ok_inS⟩
theorem kNiS (hK : X.K = K := by rfl) : OpR X (compareOp .NotIn) rNiS1 ∧ Ok2 K rNiS1 (gInS true) := by
  subst hK
  exact ⟨op_notIn_sign, ok_niS⟩
theorem cIsN {k : Nat} {q : Pos} (ha : EO K X a ta fa) : EP K X (.Compare a [.Is] [.Constant .none k q] pos) (tOp (fun x y H Q => y = .non ∧ Q (.bl (decide (x = .non))) H) ta (tC .non)) (e1 (gIsN false) fa) := ⟨pe_cmpR op_isN ha.pe pe_non (nomark _), den_isN ha.de⟩
theorem cNotN {k : Nat} {q : Pos} (ha : EO K X a ta fa) : EP K X (.Compare a [.IsNot] [.Constant .none k q] pos) (tOp (fun x y H Q => y = .non ∧ Q (.bl (!decide (x = .non))) H) ta (tC .non)) (e1 (gIsN true) fa) := ⟨pe_cmpR op_notN ha.pe pe_non (nomark _), den_notN ha.de⟩
theorem tIsN_ {k : Nat} {q : Pos} (ha : EO K X a ta fa) : ET K X (.Compare a [.Is] [.Constant .none k q] pos) (tTest (tOp (fun x y H Q => y = .non ∧ Q (.bl (decide (x = .non))) H) ta (tC .non))) (tE (e1 (gIsN false) fa)) := ⟨pt_cmpR op_isN ha.pe pe_non (nomark _), den_test (den_isN ha.de).o⟩
theorem tNotN_ {k : Nat} {q : Pos} (ha : EO K X a ta fa) : ET K X (.Compare a [.IsNot] [.Constant .none k q] pos) (tTest (tOp (fun x y H Q => y = .non ∧ Q (.bl (!decide (x = .non))) H) ta (tC .non))) (tE (e1 (gIsN true) fa)) := ⟨pt_cmpR op_notN ha.pe pe_non (nomark _), den_test (den_notN ha.de).o⟩
/-! ### tests -/
variable {tA' tB' : TT} {t u : Env → Option Bool}
theorem tVal (h : EO K X e te f) (he : ∀ whole, isTrue e X.env whole = (do let v ← whole; standAt e.pos; holding [v] (truthy v)) := by intro _; rfl) : ET K X e (tB te) (tE f) := ⟨pt_val h.pe he, den_val h.de⟩
/-- chains of and, or -/
structure EW (K : PySem.W.Frag) (X : Cx) (e : Expr) (t : TT) (f : Env → Option Bool) : Prop where
  pe : PW X e t
  de : DenT K t f
theorem EW.tt (h : EW K X e tA' t) : ET K X e tA' t := ⟨h.pe.pt, h.de⟩
theorem wA1 (h : ET K X a tA' t) : EW K X (.BoolOp .And [a] pos) tA' t := ⟨pw_and1 h.pe, h.de⟩
theorem wO1 (h : ET K X a tA' t) : EW K X (.BoolOp .Or [a] pos) tA' t := ⟨pw_or1 h.pe, h.de⟩
theorem wA {rest : List Expr} (h : ET K X a tA' t) (k : EW K X (.BoolOp .And (b :: rest) pos) tB' u) : EW K X (.BoolOp .And (a :: b :: rest) pos) (tAnd tA' tB') (tA t u) := ⟨pw_and h.pe k.pe, den_and h.de k.de⟩
theorem wO {rest : List Expr} (h : ET K X a tA' t) (k : EW K X (.BoolOp .Or (b :: rest) pos) tB' u) : EW K X (.BoolOp .Or (a :: b :: rest) pos) (tOr tA' tB') (tO t u) := ⟨pw_or h.pe k.pe, den_or h.de k.de⟩
theorem tNot_ (h : ET K X a tA' t) : ET K X (.UnaryOp .Not a pos) (tNot tA') (tN t) := ⟨pt_not h.pe, den_not h.de⟩
theorem vOne {op} (h : EP K X a ta fa) : EP K X (.BoolOp op [a] pos) ta fa := ⟨pe_one h.pe, h.de⟩
theorem vAnd {rest : List Expr} (ha : EO K X a ta fa) (hb : EP K X (.BoolOp .And (b :: rest) pos) tb fb) : EP K X (.BoolOp .And (a :: b :: rest) pos) (tAndV ta tb) (eAndB fa fb) := ⟨pe_and ha.pe hb.pe, den_andV ha.de hb.de⟩
theorem vOr {rest : List Expr} (ha : EO K X a ta fa) (hb : EP K X (.BoolOp .Or (b :: rest) pos) tb fb) : EP K X (.BoolOp .Or (a :: b :: rest) pos) (tOrV ta tb) (eOrB fa fb) := ⟨pe_or ha.pe hb.pe, den_orV ha.de hb.de⟩
theorem vNot (h : EO K X a ta fa) : EP K X (.UnaryOp .Not a pos) (tNotV ta) (eNotB fa) := ⟨pe_not h.pe, den_notV h.de⟩
theorem vIf (h : ET K X c tA' t) (ha : EP K X a ta fa) (hb : EP K X b tb fb) : EP K X (.IfExp c a b pos) (tIf tA' ta tb) (eIf t fa fb) := ⟨pe_ifExp h.pe ha.pe hb.pe, den_if h.de ha.de hb.de⟩
/-! ### arguments -/
variable {es : List Expr} {tr : TA} {fr : Env → Option (List PyData)}
theorem xN : EA K X [] tNil aNil := ⟨pa_nil, den_anil⟩
theorem xC (h : EO K X e te f) (hr : EA K X es tr fr) (hs : starEach (e :: es) X.env = (false, eval e X.env) :: starEach es X.env := by rfl) : EA K X (e :: es) (tCons te tr) (aCons f fr) := ⟨pa_cons h.pe hr.pe hs, den_acons h.de hr.de⟩
theorem yN : EB K X [] tNil aNil := ⟨pa_nil, den_apnil⟩
theorem yC (h : EP K X e te f) (hr : EB K X es tr fr) (hs : starEach (e :: es) X.env = (false, eval e X.env) :: starEach es X.env := by rfl) : EB K X (e :: es) (tCons te tr) (aCons f fr) := ⟨pa_cons h.pe hr.pe hs, den_apcons h.de hr.de⟩
theorem dTup {x1} (h : EB K X es tr fr) : EP K X (.Tuple es x1 pos) (tTup tr) (eTup fr) := ⟨pe_tup h.pe, den_tup h.de⟩
theorem dLst (h : EB K X es tr fr) : EN K X (.List es pos) (tLst tr) (nLst fr) := ⟨pe_lst h.pe, den_lst h.de⟩
/-! ### parts -/
theorem qN : EQ K X none tNoPart oNone := ⟨po_none, den_onone⟩
theorem qS (h : EO K X e te f) : EQ K X (some e) (tPart te) (oSome f) := ⟨po_some h.pe, den_osome h.de⟩
variable {lo hi : Option Expr} {tl th : TO} {fl fh : Env → Option (Option Int)} {p2 : Pos}
theorem slL (h : EO K X e te f) (hl : EQ K X lo tl fl) (hh : EQ K X hi th fh) (hK : X.K = K := by rfl) : EN K X (.Subscript e (.Slice lo hi none p2) pos) (tSl (rSlL K) te tl th) (nSl f fl fh) := by
  subst hK
  exact ⟨pe_slice sl_list h.pe hl.pe hh.pe, den_slL h.de hl.de hh.de⟩
theorem slS (h : EO K X e te f) (hl : EQ K X lo tl fl) (hh : EQ K X hi th fh) : EP K X (.Subscript e (.Slice lo hi none p2) pos) (tSl rSlS te tl th) (eSlS f fl fh) := ⟨pe_slice sl_str h.pe hl.pe hh.pe, den_slS h.de hl.de hh.de⟩
theorem slT (h : EO K X e te f) (hl : EQ K X lo tl fl) (hh : EQ K X hi th fh) (hK : X.K = K := by rfl) : EP K X (.Subscript e (.Slice lo hi none p2) pos) (tSl (rSlA K) te tl th) (eSlT f fl fh) := by
  subst hK
  exact ⟨pe_slice sl_tupA h.pe hl.pe hh.pe, den_slT h.de hl.de hh.de⟩
theorem slR {k : Nat} {p1 p3 p4 : Pos} (h : EO K X e te f) (hK : X.K = K := by rfl) : EN K X (.Subscript e (.Slice none none (some (.UnaryOp .USub (.Constant (.int 1) k p1) p3)) p4) pos) (tRevL K te) (nRev f) := by
  subst hK
  exact ⟨pe_revL h.pe, den_rev h.de⟩
theorem ixx (ha : EO K X a ta fa) (hb : EO K X b tb fb) (hs : PlainIx b := by exact fun _ _ => rfl) (hK : X.K = K := by rfl) : EP K X (.Subscript a b pos) (tOp (rIx K) ta tb) (e2 gIx fa fb) := by
  subst hK
  exact ⟨pe_ix ix_seq ha.pe hb.pe hs, den_op ok_ix ha.de hb.de⟩
theorem bCat (ha : EO K X a ta fa) (hb : EO K X b tb fb) : EN K X (.BinOp a .Add b pos) (tOp rCat ta tb) (nCat fa fb) := ⟨pe_op op_cat ha.pe hb.pe, den_cat ha.de hb.de⟩
theorem bRep (ha : EO K X a ta fa) (hb : EO K X b tb fb) : EN K X (.BinOp a .Mult b pos) (tOp rRep ta tb) (nRep fa fb) := ⟨pe_op op_rep ha.pe hb.pe, den_rep ha.de hb.de⟩
/-! ### calls -/
variable {p : Pos}
theorem fLen (hm : X.mg "len" = none) (hg : Gl X "len" := by rfl) (ha : EA K X (e :: es) tr fr) (he : starEach (e :: es) X.env = (false, eval e X.env) :: starEach es X.env := by rfl) (hpl : (backTo pos (starEach es X.env)).any (·.1) = false := by rfl) (hK : X.K = K := by rfl) :
    EP K X (.Call (.Name "len" p) (e :: es) [] pos) (tCB (fun xs H Q => ∃ x n, xs = [x] ∧ LenV K x H n ∧ Q (.int n) H) tr) (eA gLen fr) := by
  subst hK
  exact ⟨pe_callB call_len hg hm PySem.boot_len ha.pe (by decide) (by decide) he hpl, den_cb okc_len ha.de⟩
theorem fAbs (hm : X.mg "abs" = none) (hg : Gl X "abs" := by rfl) (ha : EA K X (e :: es) tr fr) (he : starEach (e :: es) X.env = (false, eval e X.env) :: starEach es X.env := by rfl) (hpl : (backTo pos (starEach es X.env)).any (·.1) = false := by rfl) :
    EP K X (.Call (.Name "abs" p) (e :: es) [] pos) (tCB (fun xs H Q => ∃ i, xs = [.int i] ∧ Q (.int (if i < 0 then -i else i)) H) tr) (eA gAbs fr) := ⟨pe_callB call_abs hg hm (by decide +kernel) ha.pe (by decide) (by decide) he hpl, den_cb okc_abs ha.de⟩
theorem fMax (hm : X.mg "max" = none) (hc : X.calm = true := by rfl) (hg : Gl X "max" := by rfl) (ha : EA K X (e :: es) tr fr) (he : starEach (e :: es) X.env = (false, eval e X.env) :: starEach es X.env := by rfl) (hpl : (backTo pos (starEach es X.env)).any (·.1) = false := by rfl) :
    EP K X (.Call (.Name "max" p) (e :: es) [] pos) (tCB (fun xs H Q => ∃ i j, xs = [.int i, .int j] ∧ Q (.int (if j > i then j else i)) H) tr) (eA gMax fr) := ⟨pe_callB (call_max2 hc) hg hm (by decide +kernel) ha.pe (by decide) (by decide) he hpl, den_cb okc_max ha.de⟩
theorem fInt (hm : X.mg "int" = none) (hg : Gl X "int" := by rfl) (ha : EA K X (e :: es) tr fr) (he : starEach (e :: es) X.env = (false, eval e X.env) :: starEach es X.env := by rfl) (hpl : (backTo pos (starEach es X.env)).any (·.1) = false := by rfl) :
    EP K X (.Call (.Name "int" p) (e :: es) [] pos) (tCB (fun xs H Q => (∃ i, xs = [.int i] ∧ Q (.int i) H) ∨ ∃ k, xs = [.bl k] ∧ Q (.int (if k then 1 else 0)) H) tr) (eA gInt fr) := ⟨pe_callTy call_int1 hg hm (by decide +kernel) ha.pe (by decide) (by decide) he hpl, den_cb okc_int ha.de⟩
theorem fList (hm : X.mg "list" = none) (hg : Gl X "list" := by rfl) (ha : EA K X (e :: es) tr fr) (he : starEach (e :: es) X.env = (false, eval e X.env) :: starEach es X.env := by rfl) (hpl : (backTo pos (starEach es X.env)).any (·.1) = false := by rfl) (hK : X.K = K := by rfl) :
    EN K X (.Call (.Name "list" p) (e :: es) [] pos) (tCB (fun xs H Q => ∃ p ys, xs = [.ref p] ∧ (SqL K H p ys ∨ SqT K H p ys) ∧ ∀ l, H l = none → Q (.ref l) (upd H l (.lst ys))) tr) (nList fr) := by
  subst hK
  exact ⟨pe_callTy call_list_of hg hm (by decide +kernel) ha.pe (by decide) (by decide) he hpl, den_list ha.de⟩
/-- isinstance(x, T), T the name of a built-in class -/
theorem fIsi (n : String) {y : Str} {q : Pos} (hm : X.mg "isinstance" = none) (hy : X.mg y = none) (hv : bootBuiltins y = some (.type n) := by decide +kernel) (hg : Gl X "isinstance" := by rfl) (hgy : Gl X y := by rfl) (ha : EO K X e te f) (hn : y ≠ "__name__" := by decide) (hd : (y == ("__debug__" : Str)) = false := by decide)
    (he : starEach (e :: [.Name y q]) X.env = (false, eval e X.env) :: starEach [.Name y q] X.env := by rfl) (hs2 : starEach [.Name y q] X.env = (false, eval (.Name y q) X.env) :: starEach [] X.env := by rfl) (hpl : (backTo pos (starEach [.Name y q] X.env)).any (·.1) = false := by rfl) (hK : X.K = K := by rfl) :
    EP K X (.Call (.Name "isinstance" p) [e, .Name y q] [] pos) (tCB (rIsi K) (tCons te (tCons (tC (.ty n)) tNil))) (e1 (gIsi n) f) := by
  subst hK
  exact ⟨pe_callB call_isi hg hm (by decide +kernel) (pa_cons ha.pe (pa_cons (pe_bltn (v := .ty n) hgy hy hv rfl hn hd) pa_nil hs2) he) (by decide) (by decide) he hpl, den_isi ha.de⟩
/-- a def of the program that a plain function tells -/
theorem cal {n k f : Nat} {fd : FuncData} {x : Str} {ps : List Str} {g : List PyData → Option PyData} (F : FnOk X.prog X.w K X.mg X.base CX0 k f fd ps (spD K n g)) (hr : Room k X.A) (hm : X.mg x = some (.ref f)) (hk : PySem.W.keepIn K (.ref f) = true) (hb : Binds K fd ps []) (ha : EB K X (e :: es) tr fr)
    (hg : Gl X x := by rfl) (hdb : (x == ("__debug__" : Str)) = false := by decide) (he : starEach (e :: es) X.env = (false, eval e X.env) :: starEach es X.env := by rfl) (hpl : (backTo pos (starEach es X.env)).any (·.1) = false := by rfl) (hK : X.K = K := by rfl) :
    EP K X (.Call (.Name x p) (e :: es) [] pos) (tCall (spD K n g) [] E0 tr) (eA (fun ds => if ds.length = n then g ds else none) fr) := by
  subst hK
  exact ⟨pe_call F hr hg hm hk hb .nil pass0 ha.pe hdb he hpl, den_call ha.de⟩
theorem fJoin {ap q : Pos} (ha : EO K X a ta fa) (hb : EO K X b tb fb) (hs : starEach [b] X.env = [(false, eval b X.env)] := by rfl) (h1 : attributeBase a "join" X.env (eval a X.env) = eval a X.env := by rfl) (h2 : (ap.endLine == q.line) = true := by rfl) (hK : X.K = K := by rfl) :
    EP K X (.Call (.Attribute a "join" ap) [b] [] q) (tM1 (rJoin K) ta tb) (e2 gJoin fa fb) := by
  subst hK
  exact ⟨pe_join ha.pe hb.pe hs h1 h2, den_join ha.de hb.de⟩
/-! ### walks -/
variable {tg : Expr}
theorem iL (h : EP K X e te f) (hK : X.K = K := by rfl) : EI K X tg e (iList K te) (iLS f) := by
  subst hK
  exact ⟨pi_list h.pe, den_il h.de⟩
theorem jL (h : EO K X e te f) (hK : X.K = K := by rfl) : EJ K X tg e (iList K te) (iLS f) := by
  subst hK
  exact ⟨pi_list h.pe, den_ilo h.de⟩
theorem iTu (h : EO K X e te f) (hK : X.K = K := by rfl) : EI K X tg e (iTup K te) (iT f) := by
  subst hK
  exact ⟨pi_tup h.pe, den_it h.de⟩
theorem iSt (h : EO K X e te f) : EI K X tg e (iStr te) (iS f) := ⟨pi_str h.pe, den_is h.de⟩
theorem iRa (hm : X.mg "range" = none) (ha : EA K X [a] tr fr) (hg : Gl X "range" := by rfl) (hs : starEach [a] X.env = [(false, eval a X.env)] := by rfl) : EI K X tg (.Call (.Name "range" p) [a] [] pos) (iRng1 tr) (iR1 fr) := ⟨pi_range1 hg hm ha.pe hs, den_ir1 ha.de⟩
theorem iRv_ (hm : X.mg "reversed" = none) (ha : EB K X [a] tr fr) (hg : Gl X "reversed" := by rfl) (hs : starEach [a] X.env = [(false, eval a X.env)] := by rfl) (hK : X.K = K := by rfl) : EI K X tg (.Call (.Name "reversed" p) [a] [] pos) (iRev K tr) (iRv fr) := by
  subst hK
  exact ⟨pi_reversed hg hm ha.pe hs, den_irv ha.de⟩
variable {elts : List Expr} {kk : Nat} {tpos : Pos}
theorem iEn_ (hm : X.mg "enumerate" = none) (ha : EB K X [a] tr fr) (hg : Gl X "enumerate" := by rfl) (hs : starEach [a] X.env = [(false, eval a X.env)] := by rfl) (hK : X.K = K := by rfl) : EI K X (.Tuple elts kk tpos) (.Call (.Name "enumerate" p) [a] [] pos) (iEnum K tr) (iEn fr) := by
  subst hK
  exact ⟨pi_enum hg hm ha.pe hs, den_ien ha.de⟩
theorem iZp_ (hm : X.mg "zip" = none) (ha : EB K X [a, b] tr fr) (hg : Gl X "zip" := by rfl) (hs : starEach [a, b] X.env = (false, eval a X.env) :: starEach [b] X.env := by rfl) (h2 : (backTo pos (starEach [b] X.env)).any (·.1) = false := by rfl) (hK : X.K = K := by rfl) :
    EI K X (.Tuple elts kk tpos) (.Call (.Name "zip" p) [a, b] [] pos) (iZip K tr) (iZp fr) := by
  subst hK
  exact ⟨pi_zip hg hm ha.pe hs h2, den_izp ha.de⟩
variable {wi : TI} {fi : Env → Option (List PyData)}
theorem EI.j (h : EI K X tg e wi fi) : EJ K X tg e wi fi := ⟨h.pe, h.de.o⟩
/-! ### targets -/
theorem gN (i : Nat) {x : Str} {S : List Nat} (nd : X.N.Nodup) (hi : i ∈ S := by decide) (hN : X.N[i]? = some x := by rfl) (hl : Loc X.env.scope x := by first | exact Or.inl rfl | exact Or.inr rfl) (hf : X.fn x = true ∨ X.env.scope.names.lookup x = some .local := by first | exact Or.inr rfl | exact Or.inl rfl) : EG K X S (.Name x pos) (gName i) (tgN i) :=
  ⟨pg_name nd hN hl hf, den_gn hi⟩
theorem gs0 {S : List Nat} : EGs K X S [] gNil tgNil := ⟨pgs_nil, den_gnil⟩
theorem gsC {S : List Nat} {e : Expr} {es : List Expr} {g : TG} {gs : TGs} {G : PyData → Env → Option Env} {Gs : List PyData → Env → Option Env} (h : EG K X S e g G) (hs : EGs K X S es gs Gs) (hx : (assignEach (e :: es) X.env).map (·.2) = assign e X.env :: (assignEach es X.env).map (·.2) := by rfl) : EGs K X S (e :: es) (gCons g gs) (tgCons G Gs) :=
  ⟨pgs_cons h.pe hs.pe hx, den_gcons h.de hs.de⟩
theorem gT {S : List Nat} {es : List Expr} {gs : TGs} {Gs : List PyData → Env → Option Env} {n k : Nat} (h : EGs K X S es gs Gs) (hc : X.calm = true := by rfl) (hn : (assignEach es X.env).length = n := by rfl) (hst : (assignEach es X.env).findIdx? (·.1) = none := by rfl) (hK : X.K = K := by rfl) : EG K X S (.Tuple es k pos) (gTup K n gs) (tgT n Gs) := by
  subst hK
  exact ⟨pg_tup hc h.pe hn hst, den_gtup h.de⟩
/-! ### statements -/
variable {st : Stmt} {rest : List Stmt} {ts tu : TS} {F F2 : Env → Option Out} {g : TG} {G : PyData → Env → Option Env} {S : List Nat}
theorem b0 : EK K X [] tNext sNext := ⟨pss_nil, dens_next⟩
theorem b1 (h : ES K X st ts F) : EK K X [st] ts F := ⟨pss_one h.pe, h.de⟩
theorem bC (h : ES K X st ts F) (hr : EK K X rest tu F2) : EK K X (st :: rest) (tSeq ts tu) (sSeq F F2) := ⟨pss_cons h.pe hr.pe, dens_seq h.de hr.de⟩
theorem EK.free (i : Nat) (h : EK K X rest ts F) : EK K X rest ts (sFree i F) := ⟨h.pe, dens_free h.de⟩
theorem ES.free (i : Nat) (h : ES K X st ts F) : ES K X st ts (sFree i F) := ⟨h.pe, dens_free h.de⟩
theorem zAsg (h : EP K X e te f) (hg : EG K X S tg g G) (hs : swapsWithSole [tg] e pos.line X.env = pure false := by rfl) (h2 : swappedStores [tg] e X.env = pure none := by rfl) (h3 : (assignEach [tg] X.env).map (·.2) = [assign tg X.env] := by rfl) : ES K X (.Assign [tg] e pos) (tAsg te g) (sAsg f G) :=
  ⟨ps_asg h.pe hg.pe hs h2 h3, dens_asg h.de hg.de⟩
theorem zOwn (i : Nat) {x : Str} {px : Pos} (nd : X.N.Nodup) (h : EN K X e te fn) (hN : X.N[i]? = some x := by rfl) (hl : Loc X.env.scope x := by first | exact Or.inl rfl | exact Or.inr rfl) (hf : X.fn x = true ∨ X.env.scope.names.lookup x = some .local := by first | exact Or.inr rfl | exact Or.inl rfl)
    (hs : swapsWithSole [.Name x px] e pos.line X.env = pure false := by rfl) (h2 : swappedStores [.Name x px] e X.env = pure none := by rfl) (h3 : (assignEach [.Name x px] X.env).map (·.2) = [assign (.Name x px) X.env] := by rfl) : ES K X (.Assign [.Name x px] e pos) (tAsg te (gName i)) (sOwn fn i) :=
  ⟨ps_asg h.pe (pg_name nd hN hl hf) hs h2 h3, dens_own h.de⟩
theorem zRet (h : EP K X e te f) : ES K X (.Return (some e) pos) (tRet te) (sRet f) := ⟨ps_ret h.pe, dens_ret h.de⟩
theorem zRetO (i : Nat) {x : Str} {q : Pos} (h : EO K X (.Name x q) (tVar i) (eVarO i)) : ES K X (.Return (some (.Name x q)) pos) (tRet (tVar i)) (sRetO i) := ⟨ps_ret h.pe, dens_reto⟩
theorem zRetN (h : EN K X e te fn) : ES K X (.Return (some e) pos) (tRet te) (sRetN fn) := ⟨ps_ret h.pe, dens_retn h.de⟩
theorem zPass : ES K X (.Pass pos) tNext sNext := ⟨ps_pass, dens_next⟩
theorem zBreak : ES K X (.Break pos) tBreak sBreak := ⟨ps_break, dens_break⟩
theorem zCont : ES K X (.Continue pos) tCont sCont := ⟨ps_continue, dens_cont⟩
variable {sa sb : List Stmt}
theorem zIf (h : ET K X c tA' t) (ha : EK K X sa ts F) (hb : EK K X sb tu F2) : ES K X (.If c sa sb pos) (tIfS tA' ts tu) (sIf t F F2) := ⟨ps_if h.pe ha.pe hb.pe, dens_if h.de ha.de hb.de⟩
theorem zFor {iter : Expr} {body : List Stmt} (hp : PassesOwn (model X.prog X.w) X.A X.env X.xe) (hi : EI K X tg iter wi fi) (hg : EG K X S tg g G) (hb : EK K X body ts F) (hc : X.calm = true := by rfl) (hs : ∀ x, foldedSetIterable iter X.env x = pure x := by intro _; rfl) : ES K X (.For tg iter body [] pos) (tFor wi g ts) (sFor fi G F) :=
  ⟨ps_for hp hc hi.pe hg.pe hb.pe hs, dens_for hi.de hg.de hb.de⟩
theorem zApp (i : Nat) {x : Str} {px ap q qq : Pos} (hx : EO K X (.Name x px) (tVar i) (eVarO i)) (h : EP K X e te f) (hb : attributeBase (.Name x px) "append" X.env (eval (.Name x px) X.env) = eval (.Name x px) X.env := by rfl)
    (hfew : (((backTo q (starEach [e] X.env)).all (!·.1) && (backToKw q (keywordEach [] X.env)).all (·.1.isSome)) && decide (([e].length + ([] : List Keyword).length + if ([] : List Keyword).isEmpty = true then 0 else 1) < 30)) = true := by rfl) (hl : (ap.endLine == q.line) = true := by rfl)
    (he : starEach (e :: []) X.env = (false, eval e X.env) :: starEach [] X.env := by rfl) (hpl : (backTo q (starEach [] X.env)).any (·.1) = false := by rfl) (hs : swapsWith (.Call (.Attribute (.Name x px) "append" ap) [e] [] q) none qq.line X.env = pure false := by rfl) (hK : X.K = K := by rfl) : ES K X (.Expr (.Call (.Attribute (.Name x px) "append" ap) [e] [] q) qq) (tDrop (tBM K "list" rAppend (tVar i) (tCons te tNil))) (sApp i f) := by
  subst hK
  exact ⟨ps_expr (pe_bm PySem.F.plainAttrs_list PySem.F.slot_list_append PySem.F.type_list_append mt_append hx.pe (pa_cons h.pe pa_nil he) hb hfew hl he hpl) hs, dens_app h.de⟩
theorem zExt (i : Nat) {x : Str} {px ap q qq : Pos} (hx : EO K X (.Name x px) (tVar i) (eVarO i)) (h : EP K X e te f) (hb : attributeBase (.Name x px) "extend" X.env (eval (.Name x px) X.env) = eval (.Name x px) X.env := by rfl)
    (hfew : (((backTo q (starEach [e] X.env)).all (!·.1) && (backToKw q (keywordEach [] X.env)).all (·.1.isSome)) && decide (([e].length + ([] : List Keyword).length + if ([] : List Keyword).isEmpty = true then 0 else 1) < 30)) = true := by rfl) (hl : (ap.endLine == q.line) = true := by rfl)
    (he : starEach (e :: []) X.env = (false, eval e X.env) :: starEach [] X.env := by rfl) (hpl : (backTo q (starEach [] X.env)).any (·.1) = false := by rfl) (hs : swapsWith (.Call (.Attribute (.Name x px) "extend" ap) [e] [] q) none qq.line X.env = pure false := by rfl) (hK : X.K = K := by rfl) : ES K X (.Expr (.Call (.Attribute (.Name x px) "extend" ap) [e] [] q) qq) (tDrop (tBM K "list" rExtend (tVar i) (tCons te tNil))) (sExt i f) := by
  subst hK
  exact ⟨ps_expr (pe_bm PySem.F.plainAttrs_list PySem.F.slot_list_extend PySem.F.type_list_extend mt_extend hx.pe (pa_cons h.pe pa_nil he) hb hfew hl he hpl) hs, dens_ext h.de⟩
/-! ### comprehensions -/
structure ETs (K : PySem.W.Frag) (X : Cx) (es : List Expr) (t : TT) (f : Env → Option Bool) : Prop where
  pe : PTs X es t
  de : DenT K t f
theorem ts0 : ETs K X [] tYes (fun _ => some true) := ⟨pts_nil, denT_yes⟩
theorem ts1 (h : ET K X c tA' t) : ETs K X [c] tA' t := ⟨pts_one h.pe, h.de⟩
theorem lcp {iter : Expr} {ifs : List Expr} {scope : Scope} (own : List (Str × Nat)) (s0 : Shared) (nd : X.N.Nodup) (hi : EJ K X tg iter wi fi) (ok : BlkOk X.N X.env.scope scope own)
    (hg : ∀ (s : Shared) (H : Hp) (C : Addr) (cl : List (Str × Addr)) (fp : List Addr), EG K (X.blk s H scope (compEnvC scope cl C X.env) fp) (own.map (·.2)) tg g G)
    (ht : ∀ (s : Shared) (H : Hp) (C : Addr) (cl : List (Str × Addr)) (fp : List Addr), ETs K (X.blk s H scope (compEnvC scope cl C X.env) fp) ifs tA' t)
    (he : ∀ (s : Shared) (H : Hp) (C : Addr) (cl : List (Str × Addr)) (fp : List Addr), EP K (X.blk s H scope (compEnvC scope cl C X.env) fp) e te f) (hc : X.calm = true := by rfl)
    (hs : ∀ x, foldedSetIterable iter X.env x = pure x := by intro _; rfl) : EN K X (.ListComp e [⟨tg, iter, ifs, 0⟩] scope pos) (tLc wi g tA' te (own.map (·.2))) (nLc fi G t f (own.map (·.2))) :=
  ⟨pe_lc hc nd hi.pe ok (fun s H C cl fp => (hg s H C cl fp).pe) (fun s H C cl fp => (ht s H C cl fp).pe) (fun s H C cl fp => (he s H C cl fp).pe) hs,
    den_lc hi.de (hg s0 (fun _ => none) 0 [] []).de (ht s0 (fun _ => none) 0 [] []).de (he s0 (fun _ => none) 0 [] []).de⟩
/-- y = [..] -/
theorem zLc {iter : Expr} {ifs : List Expr} {scope : Scope} (i : Nat) {y : Str} {py spos : Pos} (own : List (Str × Nat)) (s0 : Shared) (nd : X.N.Nodup) (hi : EJ K X tg iter wi fi) (ok : BlkOk X.N X.env.scope scope own)
    (hg : ∀ (s : Shared) (H : Hp) (C : Addr) (cl : List (Str × Addr)) (fp : List Addr), EG K (X.blk s H scope (compEnvC scope cl C X.env) fp) (own.map (·.2)) tg g G)
    (ht : ∀ (s : Shared) (H : Hp) (C : Addr) (cl : List (Str × Addr)) (fp : List Addr), ETs K (X.blk s H scope (compEnvC scope cl C X.env) fp) ifs tA' t)
    (he : ∀ (s : Shared) (H : Hp) (C : Addr) (cl : List (Str × Addr)) (fp : List Addr), EP K (X.blk s H scope (compEnvC scope cl C X.env) fp) e te f)
    (hsw : swapsWith (.ListComp e [⟨tg, iter, ifs, 0⟩] scope pos) (some (.Name y py)) spos.line X.env = pure true) (hy : X.N[i]? = some y := by rfl) (hyl : X.env.scope.names.lookup y = some .local := by rfl) (hc : X.calm = true := by rfl)
    (hs : ∀ x, foldedSetIterable iter X.env x = pure x := by intro _; rfl) : ES K X (.Assign [.Name y py] (.ListComp e [⟨tg, iter, ifs, 0⟩] scope pos) spos) (tAsg (tLc wi g tA' te (own.map (·.2))) (gName i)) (sOwn (nLc fi G t f (own.map (·.2))) i) :=
  ⟨ps_setLc hc nd hy hyl hsw hi.pe ok (fun s H C cl fp => (hg s H C cl fp).pe) (fun s H C cl fp => (ht s H C cl fp).pe) (fun s H C cl fp => (he s H C cl fp).pe) hs,
    dens_own (den_lc hi.de (hg s0 (fun _ => none) 0 [] []).de (ht s0 (fun _ => none) 0 [] []).de (he s0 (fun _ => none) 0 [] []).de)⟩
end
theorem ek_out {X : Cx} {K : PySem.W.Frag} {sts : List Stmt} {t : TS} {F : Env → Option Out} (h : EK K X sts t F) : ∃ t, PSs X sts t ∧ DenS K t F := ⟨t, h.pe, h.de⟩
/-- a def that may be called by its name -/
def Cal (P : Program) (w : World) (K : PySem.W.Frag) (mg : Str → Option Value) (base : Heap) (k : Nat) (x : Str) (n : Nat) (ps : List Str) (g : List PyData → Option PyData) : Prop :=
  ∃ (f : Addr) (fd : FuncData), FnOk P w K mg base CX0 k f fd ps (spD K n g) ∧ mg x = some (.ref f) ∧ PySem.W.keepIn K (.ref f) = true ∧ Binds K fd ps []
theorem cal1 {K : PySem.W.Frag} {X : Cx} {x : Str} {p pos : Pos} {e : Expr} {es : List Expr} {tr : TA} {fr : PL.Env → Option (List PyData)} {n k m : Nat} {ps : List Str} {g : List PyData → Option PyData} (C : Cal X.prog X.w K X.mg X.base k x n ps g) (hr : Room m X.A) (hk : k ≤ m) (ha : EB K X (e :: es) tr fr)
    (hg : Gl X x := by rfl) (hdb : (x == ("__debug__" : Str)) = false := by decide) (he : starEach (e :: es) X.env = (false, eval e X.env) :: starEach es X.env := by rfl) (hpl : (backTo pos (starEach es X.env)).any (·.1) = false := by rfl) (hK : X.K = K := by rfl) :
    EP K X (.Call (.Name x p) (e :: es) [] pos) (tCall (spD K n g) [] E0 tr) (eA (fun ds => if ds.length = n then g ds else none) fr) := by
  subst hK
  obtain ⟨f, fd, F, hm, kp, hb⟩ := C
  exact cal F (hr.mono hk) hm kp hb ha hg hdb he hpl
/-! ### calls whose arguments may be hidden lists -/
mutual
def noList : PyData → Bool
  | .none | .bool _ | .int _ | .str _ => true
  | .tuple xs => noListAll xs
  | .list _ | .dict _ => false
def noListAll : List PyData → Bool
  | [] => true
  | x :: xs => noList x && noListAll xs
end
section
variable {K : PySem.W.Frag} {O : Hid} {H H' : Hp}
theorem unl_lst {a : Addr} {xs : List V} (h : H a = some (.lst xs)) : unl O H a = false := by
  unfold unl
  rw [h]
  simp
theorem opd_unl : ∀ {vs : List V} {ds : List PyData}, OpdAll K O H vs ds → RpAll K (vis (unl O H) H) vs ds
  | _, _, .nil => .nil
  | _, _, .cons h t => by
    refine .cons ?_ (opd_unl t)
    rcases h with h | ⟨a, vs, ds, rfl, h, r, rfl⟩ | ⟨kvs, hd, h⟩
    · exact h.mono unl_le
    · exact .lst (vis_at (unl_lst h) h) (r.mono unl_le)
    · exact h
mutual
theorem Rp.last (e : PL.Ex H H') : ∀ {v : V} {d : PyData}, Rp K (vis (unl O H) H') v d → noList d = true → Rp K (vis O H') v d
  | _, _, .non, _ => .non
  | _, _, .bl b, _ => .bl b
  | _, _, .int i, _ => .int i
  | _, _, .str x, _ => .str x
  | _, _, .lst h a, n => by cases n
  | _, _, .tup (a := b) h a, n => by
    have n' : noListAll _ = true := n
    refine .tup ?_ (RpAll.last e a n')
    rcases h with h | h
    · rcases h with h | ⟨o, h⟩
      · refine .inl (.inl (vis_at ?_ (vis_le _ _ h)))
        have h2 := vis_le _ _ h
        cases z : O b with
        | false => rfl
        | true =>
          have hu : unl O H b = false := by
            cases y : unl O H b with
            | false => rfl
            | true =>
              unfold vis at h
              rw [if_pos y] at h
              cases h
          unfold unl at hu
          rw [z] at hu
          cases q : H b with
          | none => rw [q] at hu; simp at hu
          | some u =>
            rw [e b u q] at h2
            cases h2
            rw [q] at hu
            simp at hu
      · refine .inl (.inr ⟨o, vis_at ?_ (vis_le _ _ h)⟩)
        have h2 := vis_le _ _ h
        cases z : O b with
        | false => rfl
        | true =>
          have hu : unl O H b = false := by
            cases y : unl O H b with
            | false => rfl
            | true =>
              unfold vis at h
              rw [if_pos y] at h
              cases h
          unfold unl at hu
          rw [z] at hu
          cases q : H b with
          | none => rw [q] at hu; simp at hu
          | some u =>
            rw [e b u q] at h2
            cases h2
            rw [q] at hu
            simp at hu
    · exact .inr h
  | _, _, .scr h, n => by cases n
theorem RpAll.last (e : PL.Ex H H') : ∀ {vs : List V} {ds : List PyData}, RpAll K (vis (unl O H) H') vs ds → noListAll ds = true → RpAll K (vis O H') vs ds
  | _, _, .nil, _ => .nil
  | _, _, .cons h t, n => by
    have n' : (noList _ && noListAll _) = true := n
    rw [Bool.and_eq_true] at n'
    exact .cons (Rp.last e h n'.1) (RpAll.last e t n'.2)
end
mutual
theorem Rp.nol {p : Addr} {zs : List V} : ∀ {v : V} {d : PyData}, Rp K (vis O H) v d → noList d = true → H p = some (.lst zs) → Rp K (vis (hid O p) H) v d
  | _, _, .non, _, _ => .non
  | _, _, .bl b, _, _ => .bl b
  | _, _, .int i, _, _ => .int i
  | _, _, .str x, _, _ => .str x
  | _, _, .lst h a, n, _ => by cases n
  | _, _, .tup (a := b) h a, n, hp => by
    have n' : noListAll _ = true := n
    refine .tup ?_ (RpAll.nol a n' hp)
    have go : ∀ u, vis O H b = some u → b ≠ p → vis (hid O p) H b = some u := fun u hb ne => by
      refine vis_at ?_ (vis_le _ _ hb)
      unfold hid
      rw [Bool.or_eq_false_iff]
      refine ⟨?_, by simp [ne]⟩
      cases z : O b with
      | false => rfl
      | true =>
        unfold vis at hb
        rw [if_pos z] at hb
        cases hb
    rcases h with (h | ⟨o, h⟩) | h
    · exact .inl (.inl (go _ h fun e => by rw [e] at h; rw [vis_le _ _ h] at hp; cases hp))
    · exact .inl (.inr ⟨o, go _ h fun e => by rw [e] at h; rw [vis_le _ _ h] at hp; cases hp⟩)
    · exact .inr h
  | _, _, .scr h, n, _ => by cases n
theorem RpAll.nol {p : Addr} {zs : List V} : ∀ {vs : List V} {ds : List PyData}, RpAll K (vis O H) vs ds → noListAll ds = true → H p = some (.lst zs) → RpAll K (vis (hid O p) H) vs ds
  | _, _, .nil, _, _ => .nil
  | _, _, .cons h t, n, hp => by
    have n' : (noList _ && noListAll _) = true := n
    rw [Bool.and_eq_true] at n'
    exact .cons (Rp.nol h n'.1 hp) (RpAll.nol t n'.2 hp)
end
theorem unl_al (al : ∀ a, O a = true → H a ≠ none) : ∀ a, unl O H a = true → H a ≠ none := fun a h => by
  unfold unl at h
  rw [Bool.and_eq_true] at h
  exact al a h.1
theorem den_callX {n : Nat} {g : List PyData → Option PyData} {E : XK} {tr : TA} {fr : PL.Env → Option (List PyData)} (h : DenA K tr fr) : DenP K (tCall (spD K n g) [] E tr) (eA (fun ds => if ds.length = n then (g ds).bind fun d => if noList d then some d else none else none) fr) := by
  intro base O0 O σ H env d S e Q q
  unfold eA at e
  cases k1 : fr env with
  | none => simp [k1] at e
  | some xs =>
    simp only [k1, Option.bind_some] at e
    split at e
    case isFalse => cases e
    rename_i hn
    cases k2 : g xs with
    | none => simp [k2] at e
    | some d2 =>
      simp only [k2, Option.bind_some] at e
      split at e
      case isFalse => cases e
      rename_i hl
      cases e
      refine h base O0 O σ H env xs S k1 _ fun vs H1 x1 r => ?_
      have r2 := opd_unl r
      show spD K n g (vs ++ []) H1 Q E
      rw [List.append_nil]
      exact ⟨unl O H1, xs, d, by rw [r2.length]; exact hn, unl_al (S.mono x1).all, r2, k2, fun v H2 x2 _ r3 => q v H2 (x1.trans x2) (r3.last x2 hl)⟩
theorem den_callNX {n : Nat} {g : List PyData → Option (List PyData)} {E : XK} {tr : TA} {fr : PL.Env → Option (List PyData)} (h : DenA K tr fr) : DenN K (tCall (spN K n g) [] E tr) (fun env => (fr env).bind fun ds => if ds.length = n then (g ds).bind fun es => if noListAll es then some es else none else none) := by
  intro base O0 O σ H env d S e Q q
  cases k1 : fr env with
  | none => simp [k1] at e
  | some xs =>
    simp only [k1, Option.bind_some] at e
    split at e
    case isFalse => cases e
    rename_i hn
    cases k2 : g xs with
    | none => simp [k2] at e
    | some d2 =>
      simp only [k2, Option.bind_some] at e
      split at e
      case isFalse => cases e
      rename_i hl
      cases e
      refine h base O0 O σ H env xs S k1 _ fun vs H1 x1 r => ?_
      have r2 := opd_unl r
      show spN K n g (vs ++ []) H1 Q E
      rw [List.append_nil]
      refine ⟨unl O H1, xs, d, by rw [r2.length]; exact hn, unl_al (S.mono x1).all, r2, k2, fun p ws H2 hp x2 g2 r3 => q p ws H2 (x1.free hp) (x1.trans x2) g2 ?_⟩
      have r4 : RpAll K (vis O H2) ws d := (r3.mono hid_le).last x2 hl
      exact RpAll.nol r4 hl g2
end
/-- a def that may be called by its name and hands back a new list -/
def CalN (P : Program) (w : World) (K : PySem.W.Frag) (mg : Str → Option Value) (base : Heap) (k : Nat) (x : Str) (n : Nat) (ps : List Str) (g : List PyData → Option (List PyData)) : Prop :=
  ∃ (f : Addr) (fd : FuncData), FnOk P w K mg base CX0 k f fd ps (spN K n g) ∧ mg x = some (.ref f) ∧ PySem.W.keepIn K (.ref f) = true ∧ Binds K fd ps []
section
variable {K : PySem.W.Frag} {X : Cx} {x : Str} {p pos : Pos} {e : Expr} {es : List Expr} {tr : TA} {fr : PL.Env → Option (List PyData)} {n k m : Nat} {ps : List Str}
theorem cal1N {g : List PyData → Option (List PyData)} (C : CalN X.prog X.w K X.mg X.base k x n ps g) (hr : Room m X.A) (hk : k ≤ m) (ha : EB K X (e :: es) tr fr)
    (hg : Gl X x := by rfl) (hdb : (x == ("__debug__" : Str)) = false := by decide) (he : starEach (e :: es) X.env = (false, eval e X.env) :: starEach es X.env := by rfl) (hpl : (backTo pos (starEach es X.env)).any (·.1) = false := by rfl) (hK : X.K = K := by rfl) :
    EN K X (.Call (.Name x p) (e :: es) [] pos) (tCall (spN K n g) [] E0 tr) (fun env => (fr env).bind fun ds => if ds.length = n then g ds else none) := by
  subst hK
  obtain ⟨f, fd, F, hm, kp, hb⟩ := C
  exact ⟨pe_call F (hr.mono hk) hg hm kp hb .nil pass0 ha.pe hdb he hpl, den_callN ha.de⟩
theorem cal1NX {g : List PyData → Option (List PyData)} (C : CalN X.prog X.w K X.mg X.base k x n ps g) (hr : Room m X.A) (hk : k ≤ m) (ha : EA K X (e :: es) tr fr)
    (hg : Gl X x := by rfl) (hdb : (x == ("__debug__" : Str)) = false := by decide) (he : starEach (e :: es) X.env = (false, eval e X.env) :: starEach es X.env := by rfl) (hpl : (backTo pos (starEach es X.env)).any (·.1) = false := by rfl) (hK : X.K = K := by rfl) :
    EN K X (.Call (.Name x p) (e :: es) [] pos) (tCall (spN K n g) [] E0 tr) (fun env => (fr env).bind fun ds => if ds.length = n then (g ds).bind fun es => if noListAll es then some es else none else none) := by
  subst hK
  obtain ⟨f, fd, F, hm, kp, hb⟩ := C
  exact ⟨pe_call F (hr.mono hk) hg hm kp hb .nil pass0 ha.pe hdb he hpl, den_callNX ha.de⟩
theorem cal1X {g : List PyData → Option PyData} (C : Cal X.prog X.w K X.mg X.base k x n ps g) (hr : Room m X.A) (hk : k ≤ m) (ha : EA K X (e :: es) tr fr)
    (hg : Gl X x := by rfl) (hdb : (x == ("__debug__" : Str)) = false := by decide) (he : starEach (e :: es) X.env = (false, eval e X.env) :: starEach es X.env := by rfl) (hpl : (backTo pos (starEach es X.env)).any (·.1) = false := by rfl) (hK : X.K = K := by rfl) :
    EP K X (.Call (.Name x p) (e :: es) [] pos) (tCall (spD K n g) [] E0 tr) (eA (fun ds => if ds.length = n then (g ds).bind fun d => if noList d then some d else none else none) fr) := by
  subst hK
  obtain ⟨f, fd, F, hm, kp, hb⟩ := C
  exact ⟨pe_call F (hr.mono hk) hg hm kp hb .nil pass0 ha.pe hdb he hpl, den_callX ha.de⟩
end
end PL
/-! A Store's plain state: what a row does to it. -/
namespace PL
open PySem L2

/-! ### pairs by their texts -/
def getA {α : Type} (l : List (Str × α)) (x : Str) : Option α := (l.find? fun q => decide (q.1 = x)).map (·.2)
def putA {α : Type} (l : List (Str × α)) (x : Str) (v : α) : List (Str × α) := if (l.any fun q => decide (q.1 = x)) = true then l.map (fun q => if q.1 = x then (q.1, v) else q) else l ++ [(x, v)]
def dropA {α : Type} (l : List (Str × α)) (x : Str) : List (Str × α) := l.filter fun q => decide (q.1 ≠ x)
def kvs {α : Type} (f : α → V) (l : List (Str × α)) : List (Key × V) := l.map fun q => (kS q.1, f q.2)
theorem kS_inj {x y : Str} : kS x = kS y ↔ x = y := ⟨fun h => by cases h; rfl, fun h => by rw [h]⟩
section
variable {α : Type} {f : α → V}
theorem valV_kvs (l : List (Str × α)) (x : Str) : valV (kvs f l) (kS x) = (getA l x).map f := by
  induction l with
  | nil => rfl
  | cons q r ih =>
    unfold kvs at ih ⊢
    rw [List.map_cons]
    by_cases e : q.1 = x
    · rw [valV_pos (by rw [e])]
      unfold getA
      rw [List.find?_cons_of_pos (by simp [e])]
      rfl
    · rw [valV_neg (fun z => e (kS_inj.mp z)), ih]
      unfold getA
      rw [List.find?_cons_of_neg (by simp [e])]
theorem putK_kvs (l : List (Str × α)) (x : Str) (v : α) : putK (kvs f l) (kS x) (f v) = kvs f (putA l x v) := by
  have ha : ((kvs f l).any fun kv => decide (kv.1 = kS x)) = l.any fun q => decide (q.1 = x) := by
    unfold kvs
    rw [List.any_map]
    congr 1
    funext q
    exact decide_eq_decide.mpr kS_inj
  unfold putK putA
  rw [ha]
  split
  · unfold kvs
    rw [List.map_map, List.map_map]
    apply List.map_congr_left
    intro q _
    show (if kS q.1 = kS x then (kS q.1, f v) else (kS q.1, f q.2)) = _
    by_cases e : q.1 = x
    · rw [if_pos (kS_inj.mpr e)]
      show _ = (fun q => (kS q.1, f q.2)) (if q.1 = x then (q.1, v) else q)
      rw [if_pos e]
    · rw [if_neg (fun z => e (kS_inj.mp z))]
      show _ = (fun q => (kS q.1, f q.2)) (if q.1 = x then (q.1, v) else q)
      rw [if_neg e]
  · unfold kvs
    rw [List.map_append]
    rfl
theorem dropK_kvs (l : List (Str × α)) (x : Str) : dropK (kvs f l) (kS x) = kvs f (dropA l x) := by
  unfold dropK dropA kvs
  rw [List.filter_map]
  congr 1
  apply List.filter_congr
  intro q _
  show decide (kS q.1 ≠ kS x) = decide (q.1 ≠ x)
  exact decide_eq_decide.mpr (not_congr kS_inj)
theorem getA_put (l : List (Str × α)) (x y : Str) (v : α) : getA (putA l x v) y = if y = x then some v else getA l y := by
  unfold putA
  split
  · rename_i h
    induction l with
    | nil => cases h
    | cons q r ih =>
      rw [List.map_cons]
      by_cases e : q.1 = x
      · rw [if_pos e]
        by_cases e2 : y = x
        · rw [if_pos e2]
          unfold getA
          rw [List.find?_cons_of_pos (by simp [e, e2])]
          rfl
        · rw [if_neg e2]
          have ne : ¬ q.1 = y := fun z => e2 (z.symm.trans e)
          unfold getA at ih ⊢
          rw [List.find?_cons_of_neg (by simp [ne]), List.find?_cons_of_neg (by simp [ne])]
          by_cases hr : (r.any fun q => decide (q.1 = x)) = true
          · have := ih hr
            rw [if_neg e2] at this
            exact this
          · have : r.map (fun q => if q.1 = x then (q.1, v) else q) = r := by
              conv => rhs; rw [← List.map_id r]
              apply List.map_congr_left
              intro z hz
              have : ¬ z.1 = x := fun e => hr (List.any_eq_true.mpr ⟨z, hz, by simp [e]⟩)
              rw [if_neg this]
              rfl
            rw [this]
      · rw [if_neg e]
        have hr : (r.any fun q => decide (q.1 = x)) = true := by
          rw [List.any_cons] at h
          simpa [e] using h
        have ih := ih hr
        unfold getA at ih ⊢
        by_cases e2 : q.1 = y
        · have : ¬ y = x := fun z => e (e2.trans z)
          rw [if_neg this, List.find?_cons_of_pos (by simp [e2]), List.find?_cons_of_pos (by simp [e2])]
        · rw [List.find?_cons_of_neg (by simp [e2]), List.find?_cons_of_neg (by simp [e2])]
          exact ih
  · rename_i h
    induction l with
    | nil =>
      rw [List.nil_append]
      unfold getA
      by_cases e : y = x
      · rw [if_pos e, List.find?_cons_of_pos (by simp [e])]
        rfl
      · rw [if_neg e, List.find?_cons_of_neg (by simp; exact fun z => e z.symm)]
    | cons q r ih =>
      have h2 : ¬ q.1 = x ∧ ¬ (r.any fun q => decide (q.1 = x)) = true := by
        rw [List.any_cons] at h
        by_cases e : q.1 = x
        · simp [e] at h
        · exact ⟨e, by simpa [e] using h⟩
      have ih := ih h2.2
      unfold getA at ih ⊢
      rw [List.cons_append]
      by_cases e2 : q.1 = y
      · have : ¬ y = x := fun z => h2.1 (e2.trans z)
        rw [if_neg this, List.find?_cons_of_pos (by simp [e2]), List.find?_cons_of_pos (by simp [e2])]
      · rw [List.find?_cons_of_neg (by simp [e2]), List.find?_cons_of_neg (by simp [e2])]
        exact ih
theorem putA_len (l : List (Str × α)) (x : Str) (v : α) : (putA l x v).length ≤ l.length + 1 := by
  unfold putA
  split
  · rw [List.length_map]
    omega
  · rw [List.length_append]
    exact Nat.le_refl _
theorem any_get (l : List (Str × α)) (x : Str) : (l.any fun q => decide (q.1 = x)) = (getA l x).isSome := by
  induction l with
  | nil => rfl
  | cons q r ih =>
    rw [List.any_cons]
    unfold getA at ih ⊢
    by_cases e : q.1 = x
    · rw [List.find?_cons_of_pos (by simp [e])]
      simp [e]
    · rw [List.find?_cons_of_neg (by simp [e]), ← ih]
      simp [e]
end

/-! ### rows -/
inductive Row where
  | open_ (p : Str) | lay (n p : Str) (z : Int) | copy (n o p : Str) | same (n o : Str) | add (n o : Str) | tell (n : Str) | give (p : Str) | fork (k : Int) | go (k : Int) | end_
  deriving DecidableEq
def encR : Row → PyData
  | .open_ p => .tuple [.str "open", .str p]
  | .lay n p z => .tuple [.str "lay", .str n, .str p, .int z]
  | .copy n o p => .tuple [.str "copy", .str n, .str o, .str p]
  | .same n o => .tuple [.str "same", .str n, .str o]
  | .add n o => .tuple [.str "add", .str n, .str o]
  | .tell n => .tuple [.str "tell", .str n]
  | .give p => .tuple [.str "give", .str p]
  | .fork k => .tuple [.str "fork", .int k]
  | .go k => .tuple [.str "go", .int k]
  | .end_ => .tuple [.str "end"]
def decR : PyData → Option Row
  | .tuple [.str w] => if w = "end" then some .end_ else none
  | .tuple [.str w, .str x] => if w = "open" then some (.open_ x) else if w = "tell" then some (.tell x) else if w = "give" then some (.give x) else none
  | .tuple [.str w, .int k] => if w = "fork" then some (.fork k) else if w = "go" then some (.go k) else none
  | .tuple [.str w, .str x, .str y] => if w = "same" then some (.same x y) else if w = "add" then some (.add x y) else none
  | .tuple [.str w, .str x, .str y, .int z] => if w = "lay" then some (.lay x y z) else none
  | .tuple [.str w, .str x, .str y, .str z] => if w = "copy" then some (.copy x y z) else none
  | _ => none
theorem decR_encR (r : Row) : decR (encR r) = some r := by
  cases r <;> rfl
theorem encR_decR {d : PyData} {r : Row} (h : decR d = some r) : d = encR r := by
  unfold decR at h
  split at h
  · split at h
    · rename_i e
      cases h
      rw [e]
      rfl
    · cases h
  · split at h
    · rename_i e
      cases h
      rw [e]
      rfl
    · split at h
      · rename_i e
        cases h
        rw [e]
        rfl
      · split at h
        · rename_i e
          cases h
          rw [e]
          rfl
        · cases h
  · split at h
    · rename_i e
      cases h
      rw [e]
      rfl
    · split at h
      · rename_i e
        cases h
        rw [e]
        rfl
      · cases h
  · split at h
    · rename_i e
      cases h
      rw [e]
      rfl
    · split at h
      · rename_i e
        cases h
        rw [e]
        rfl
      · cases h
  · split at h
    · rename_i e
      cases h
      rw [e]
      rfl
    · cases h
  · split at h
    · rename_i e
      cases h
      rw [e]
      rfl
    · cases h
  · cases h

/-! ### what goes wrong, what a row does -/
namespace SM
variable (S : SM)
def isUp (x : Str) : Bool := (getA S.opens x).isSome
def wPlot (x : Str) : Str := if S.isUp x then "" else "not open"
def wHolder (x : Str) : Str := if (getA S.held x).isSome then "" else "nothing"
def valOf (x : Str) : Option (Str × Int × Int) := (getA S.held x).bind fun i => S.vals[i]?
def wName (x : Str) : Str := match S.valOf x with
  | none => "nothing"
  | some v => if getA S.opens v.1 = some v.2.1 then "" else "gone"
def wOpen (x : Str) : Str := if S.isUp x then "open already" else match getA S.chains x with
  | some (_ :: c :: _) => if S.isUp c then "" else "not open"
  | _ => ""
def orW (a b : Str) : Str := if a = "" then b else a
def wrong : Row → Str
  | .open_ p => S.wOpen p
  | .lay _ p _ => S.wPlot p
  | .copy _ o p => orW (S.wName o) (S.wPlot p)
  | .same _ o => S.wHolder o
  | .add n o => orW (S.wName n) (S.wName o)
  | .tell n => S.wName n
  | .give p => S.wPlot p
  | .end_ => if S.opens = [] then "" else "left"
  | _ => ""
def put (n p : Str) (z : Int) : SM := { S with held := putA S.held n S.vals.length, vals := S.vals ++ [(p, (getA S.opens p).getD 0, z)] }
def chainOf (x : Str) : List Str := (getA S.chains x).getD []
def within (p : Str) : List (Str × Int) := S.opens.filter fun q => decide (p ∈ S.chainOf q.1)
def numOf (x : Str) : Int := match S.valOf x with
  | some v => v.2.2
  | none => 0
def change : Row → SM
  | .open_ p => { S with opens := putA S.opens p S.opened, opened := S.opened + 1 }
  | .lay n p z => S.put n p z
  | .copy n o p => S.put n p (S.numOf o)
  | .same n o => match getA S.held o with
    | some i => { S with held := putA S.held n i }
    | none => S
  | .add n o => match getA S.held n with
    | some i => { S with vals := S.vals.modify i fun v => (v.1, v.2.1, v.2.2 + S.numOf o) }
    | none => S
  | .tell n => { S with told := S.told ++ [S.numOf n] }
  | .give p => { S with given := S.given ++ (S.within p).reverse.map (·.2), opens := S.opens.filter fun q => decide (p ∉ S.chainOf q.1) }
  | _ => S
/-- a row done -/
def act (r : Row) : Str × SM := (S.wrong r, if S.wrong r = "" then S.change r else S)
end SM
/-- what holds of a Store's state at any time: each open plot once, with its chain -/
structure SOk (S : SM) : Prop where
  nd : (S.opens.map (·.1)).Nodup
  ch : ∀ q ∈ S.opens, (getA S.chains q.1).isSome = true
  he : ∀ q ∈ S.held, q.2 < S.vals.length
/-! ### plots -/
def optD : Option Str → PyData
  | none => .none
  | some x => .str x
def encP (q : Str × Option Str) : PyData := .tuple [.str q.1, optD q.2]
def encPs (ps : List (Str × Option Str)) : PyData := .list (ps.map encP)
/-- texts fit to be compared -/
def okP (q : Str × Option Str) : Bool := PyData.strOk q.1 && (match q.2 with | none => true | some o => PyData.strOk o)
/-- the plot and those around it, from the inside out -/
def outGo : List (Str × Option Str) → Option Str → List Str
  | [], _ => []
  | q :: r, w => if w = some q.1 then q.1 :: outGo r q.2 else outGo r w
def outM (ps : List (Str × Option Str)) (x : Str) : List Str := outGo ps.reverse (some x)
def SM0 (ps : List (Str × Option Str)) : SM := { chains := ps.map fun q => (q.1, outM ps q.1), opens := [], opened := 0, given := [], told := [], held := [], vals := [] }
end PL
namespace PL
open PySem L2

/-! ### a Store's cells, changed one at a time -/
structure Moved (H H' : Hp) (fp fp' : List Addr) : Prop where
  keep : ∀ b o, H b = some o → b ∉ fp → H' b = some o
  live : ∀ b, H b ≠ none → H' b ≠ none
  newc : ∀ b ∈ fp', b ∈ fp ∨ H b = none
  nd : fp'.Nodup
theorem Moved.trans {H H1 H2 : Hp} {f f1 f2 : List Addr} (a : Moved H H1 f f1) (b : Moved H1 H2 f1 f2) : Moved H H2 f f2 := by
  refine ⟨fun c o h n => b.keep c o (a.keep c o h n) fun m => ?_, fun c h => b.live c (a.live c h), fun c m => ?_, b.nd⟩
  · rcases a.newc c m with m2 | m2
    · exact n m2
    · rw [m2] at h
      cases h
  · rcases b.newc c m with m2 | m2
    · exact a.newc c m2
    · right
      cases q : H c with
      | none => rfl
      | some o => exact absurd m2 (a.live c (by rw [q]; exact fun z => nomatch z))
theorem Moved.refl {H : Hp} {f : List Addr} (nd : f.Nodup) : Moved H H f f := ⟨fun _ _ h _ => h, fun _ h => h, fun _ m => .inl m, nd⟩
/-- one cell of fp is written -/
theorem Moved.wr {H : Hp} {f : List Addr} {c : Addr} {o : HO} (nd : f.Nodup) (m : c ∈ f) : Moved H (upd H c o) f f :=
  ⟨fun b u h n => by rw [upd_ne (fun (e : b = c) => n (e ▸ m))]; exact h, fun b h => by
    by_cases e : b = c
    · rw [e, upd_same]
      exact fun z => nomatch z
    · rw [upd_ne e]
      exact h, fun _ m => .inl m, nd⟩
theorem ListsAt.wr {H : Hp} {c : Addr} {o : HO} : ∀ {as : List Addr} {xs : List (List Str)}, ListsAt H as xs → (∀ a ∈ as, a ≠ c) → ListsAt (upd H c o) as xs
  | _, _, .nil, _ => .nil
  | _, _, .cons h t, n => .cons (by rw [upd_ne (n _ (List.mem_cons_self ..))]; exact h) (t.wr fun a m => n a (List.mem_cons_of_mem _ m))
theorem ValsAt.wr {H : Hp} {CV c : Addr} {o : HO} : ∀ {as : List (Addr × Addr)} {vs : List (Str × Int × Int)}, ValsAt H CV as vs → (∀ a ∈ as, a.1 ≠ c ∧ a.2 ≠ c) → ValsAt (upd H c o) CV as vs
  | _, _, .nil, _ => .nil
  | _, _, .cons h1 h2 t, n => .cons (by rw [upd_ne (n _ (List.mem_cons_self ..)).1]; exact h1) (by rw [upd_ne (n _ (List.mem_cons_self ..)).2]; exact h2) (t.wr fun a m => n a (List.mem_cons_of_mem _ m))
theorem ValsAt.snoc {H : Hp} {CV : Addr} {a : Addr × Addr} {v : Str × Int × Int} (h1 : H a.1 = some (.ins CV a.2 (vaF v))) (h2 : H a.2 = some (.own a.1)) : ∀ {as : List (Addr × Addr)} {vs : List (Str × Int × Int)}, ValsAt H CV as vs → ValsAt H CV (as ++ [a]) (vs ++ [v])
  | _, _, .nil => .cons h1 h2 .nil
  | _, _, .cons g1 g2 t => .cons g1 g2 (t.snoc h1 h2)
/-- the i-th value is written -/
theorem ValsAt.set {H : Hp} {CV : Addr} : ∀ {as : List (Addr × Addr)} {vs : List (Str × Int × Int)} {i : Nat} {a : Addr × Addr} {f : Str × Int × Int → Str × Int × Int} {v : Str × Int × Int}, ValsAt H CV as vs → as[i]? = some a → vs[i]? = some v → (as.map (·.1) ++ as.map (·.2)).Nodup → ValsAt (upd H a.1 (.ins CV a.2 (vaF (f v)))) CV as (vs.modify i f)
  | _, _, _, _, _, _, .nil, e, _, _ => by simp at e
  | a0 :: as, v0 :: vs, 0, _, f, _, .cons h1 h2 t, e, e2, nd => by
    simp at e e2
    subst e e2
    have n1 : ∀ b ∈ as, b.1 ≠ a0.1 ∧ b.2 ≠ a0.1 := fun b m => by
      rw [List.map_cons, List.cons_append, List.nodup_cons] at nd
      refine ⟨fun q => nd.1 (List.mem_append_left _ (q ▸ List.mem_map_of_mem m)), fun q => nd.1 (List.mem_append_right _ (List.mem_cons_of_mem _ (q ▸ List.mem_map_of_mem m)))⟩
    have n2 : a0.2 ≠ a0.1 := fun q => by
      rw [List.map_cons, List.cons_append, List.nodup_cons] at nd
      exact nd.1 (List.mem_append_right _ (by rw [List.map_cons, q]; exact List.mem_cons_self ..))
    exact .cons upd_same (by rw [upd_ne n2]; exact h2) (t.wr n1)
  | a0 :: as, v0 :: vs, i + 1, a, f, v, .cons h1 h2 t, e, e2, nd => by
    have e' : as[i]? = some a := by simpa using e
    have e2' : vs[i]? = some v := by simpa using e2
    have ma : a ∈ as := List.mem_of_getElem? e'
    have nd' : (as.map (·.1) ++ as.map (·.2)).Nodup := by
      rw [List.map_cons, List.cons_append, List.nodup_cons] at nd
      have h := nd.2
      rw [List.map_cons] at h
      exact h.sublist (List.Sublist.append (List.Sublist.refl _) (List.sublist_cons_self ..))
    have n1 : a0.1 ≠ a.1 := fun q => by
      rw [List.map_cons, List.cons_append, List.nodup_cons] at nd
      exact nd.1 (List.mem_append_left _ (q ▸ List.mem_map_of_mem ma))
    have n2 : a0.2 ≠ a.1 := fun q => by
      rw [List.map_cons, List.cons_append, List.nodup_cons, List.map_cons] at nd
      have h := List.nodup_append.mp nd.2
      exact h.2.2 a.1 (List.mem_map_of_mem ma) a0.2 (List.mem_cons_self ..) q.symm
    have g := ValsAt.set (f := f) t e' e2' nd'
    rw [List.modify_succ_cons]
    exact .cons (by rw [upd_ne n1]; exact h1) (by rw [upd_ne n2]; exact h2) g
/-- that the cells are apart, one by one -/
structure Apart (p dx at_ ag ac ao ah : Addr) (cas : List Addr) (vas : List (Addr × Addr)) : Prop where
  h : (p ≠ dx ∧ p ≠ at_ ∧ p ≠ ag ∧ p ≠ ac ∧ p ≠ ao ∧ p ≠ ah) ∧ (dx ≠ at_ ∧ dx ≠ ag ∧ dx ≠ ac ∧ dx ≠ ao ∧ dx ≠ ah) ∧ (at_ ≠ ag ∧ at_ ≠ ac ∧ at_ ≠ ao ∧ at_ ≠ ah) ∧ (ag ≠ ac ∧ ag ≠ ao ∧ ag ≠ ah) ∧ (ac ≠ ao ∧ ac ≠ ah) ∧ ao ≠ ah
  c : ∀ a ∈ cas, a ≠ p ∧ a ≠ dx ∧ a ≠ at_ ∧ a ≠ ag ∧ a ≠ ac ∧ a ≠ ao ∧ a ≠ ah
  v : ∀ a ∈ vas, (a.1 ≠ p ∧ a.1 ≠ dx ∧ a.1 ≠ at_ ∧ a.1 ≠ ag ∧ a.1 ≠ ac ∧ a.1 ≠ ao ∧ a.1 ≠ ah) ∧ (a.2 ≠ p ∧ a.2 ≠ dx ∧ a.2 ≠ at_ ∧ a.2 ≠ ag ∧ a.2 ≠ ac ∧ a.2 ≠ ao ∧ a.2 ≠ ah)
  cv : ∀ a ∈ cas, ∀ b ∈ vas, a ≠ b.1 ∧ a ≠ b.2
  vv : (vas.map (·.1) ++ vas.map (·.2)).Nodup
theorem apart {p dx at_ ag ac ao ah : Addr} {cas : List Addr} {vas : List (Addr × Addr)} (nd : (stFp p dx at_ ag ac ao ah cas vas).Nodup) : Apart p dx at_ ag ac ao ah cas vas := by
  unfold stFp at nd
  simp only [List.nodup_cons, List.mem_cons, List.mem_append, not_or] at nd
  obtain ⟨⟨a1, a2, a3, a4, a5, a6, a7, a8, a9⟩, ⟨b1, b2, b3, b4, b5, b6, b7, b8⟩, ⟨c1, c2, c3, c4, c5, c6, c7⟩, ⟨d1, d2, d3, d4, d5, d6⟩, ⟨e1, e2, e3, e4, e5⟩, ⟨f1, f2, f3, f4⟩, ⟨g1, g2, g3⟩, nd⟩ := nd
  have nd2 := List.nodup_append.mp nd
  refine ⟨⟨⟨a1, a2, a3, a4, a5, a6⟩, ⟨b1, b2, b3, b4, b5⟩, ⟨c1, c2, c3, c4⟩, ⟨d1, d2, d3⟩, ⟨e1, e2⟩, f1⟩, fun a m => ?_, fun a m => ⟨?_, ?_⟩, fun a m b mb => ?_, nd2.2.1⟩
  · refine ⟨?_, ?_, ?_, ?_, ?_, ?_, ?_⟩ <;> (intro q; subst q; contradiction)
  · have m1 := List.mem_map_of_mem (f := (·.1)) m
    refine ⟨?_, ?_, ?_, ?_, ?_, ?_, ?_⟩ <;> (intro q; rw [q] at m1; contradiction)
  · have m1 := List.mem_map_of_mem (f := (·.2)) m
    refine ⟨?_, ?_, ?_, ?_, ?_, ?_, ?_⟩ <;> (intro q; rw [q] at m1; contradiction)
  · exact ⟨fun q => nd2.2.2 a m b.1 (List.mem_append_left _ (List.mem_map_of_mem mb)) q, fun q => nd2.2.2 a m b.2 (List.mem_append_right _ (List.mem_map_of_mem mb)) q⟩
section
variable {H : Hp} {C CV p dx at_ ag ac ao ah : Addr} {cas : List Addr} {vas : List (Addr × Addr)} {S : SM}
theorem StAt.setO (h : StAt H C CV p dx at_ ag ac ao ah cas vas S) (A : Apart p dx at_ ag ac ao ah cas vas) (os : List (Str × Int)) : StAt (upd H ao (.dK (kvs V.int os))) C CV p dx at_ ag ac ao ah cas vas { S with opens := os } := by
  obtain ⟨⟨_, _, _, _, q1, _⟩, ⟨_, _, _, q2, _⟩, ⟨_, _, q3, _⟩, ⟨_, q4, _⟩, ⟨q5, _⟩, q6⟩ := A.h
  exact ⟨by rw [upd_ne q1]; exact h.hp, by rw [upd_ne q2]; exact h.hdx, by rw [upd_ne q3]; exact h.ht, by rw [upd_ne q4]; exact h.hg, by rw [upd_ne q5]; exact h.hc, h.hcs.wr fun a m => (A.c a m).2.2.2.2.2.1, upd_same, by rw [upd_ne (fun e => q6 e.symm)]; exact h.hh, h.hv.wr fun a m => ⟨(A.v a m).1.2.2.2.2.2.1, (A.v a m).2.2.2.2.2.2.1⟩, h.hr⟩
theorem StAt.setH (h : StAt H C CV p dx at_ ag ac ao ah cas vas S) (A : Apart p dx at_ ag ac ao ah cas vas) (hs : List (Str × Nat)) (hr : ∀ q ∈ hs, q.2 < S.vals.length) : StAt (upd H ah (.dK (hs.map fun q => (kS q.1, V.ref ((vas.map (·.1)).getD q.2 0))))) C CV p dx at_ ag ac ao ah cas vas { S with held := hs } := by
  obtain ⟨⟨_, _, _, _, _, q1⟩, ⟨_, _, _, _, q2⟩, ⟨_, _, _, q3⟩, ⟨_, _, q4⟩, ⟨_, q5⟩, q6⟩ := A.h
  exact ⟨by rw [upd_ne q1]; exact h.hp, by rw [upd_ne q2]; exact h.hdx, by rw [upd_ne q3]; exact h.ht, by rw [upd_ne q4]; exact h.hg, by rw [upd_ne q5]; exact h.hc, h.hcs.wr fun a m => (A.c a m).2.2.2.2.2.2, by rw [upd_ne q6]; exact h.ho, upd_same, h.hv.wr fun a m => ⟨(A.v a m).1.2.2.2.2.2.2, (A.v a m).2.2.2.2.2.2.2⟩, hr⟩
theorem StAt.setP (h : StAt H C CV p dx at_ ag ac ao ah cas vas S) (A : Apart p dx at_ ag ac ao ah cas vas) (n : Int) : StAt (upd H p (.ins C dx (stF at_ ag ac ao ah n))) C CV p dx at_ ag ac ao ah cas vas { S with opened := n } := by
  obtain ⟨⟨q1, q2, q3, q4, q5, q6⟩, _⟩ := A.h
  exact ⟨upd_same, by rw [upd_ne q1.symm]; exact h.hdx, by rw [upd_ne q2.symm]; exact h.ht, by rw [upd_ne q3.symm]; exact h.hg, by rw [upd_ne q4.symm]; exact h.hc, h.hcs.wr fun a m => (A.c a m).1, by rw [upd_ne q5.symm]; exact h.ho, by rw [upd_ne q6.symm]; exact h.hh, h.hv.wr fun a m => ⟨(A.v a m).1.1, (A.v a m).2.1⟩, h.hr⟩
theorem StAt.setT (h : StAt H C CV p dx at_ ag ac ao ah cas vas S) (A : Apart p dx at_ ag ac ao ah cas vas) (ts : List Int) : StAt (upd H at_ (.lst (ts.map V.int))) C CV p dx at_ ag ac ao ah cas vas { S with told := ts } := by
  obtain ⟨⟨_, q1, _⟩, ⟨q2, _⟩, ⟨q3, q4, q5, q6⟩, _⟩ := A.h
  exact ⟨by rw [upd_ne q1]; exact h.hp, by rw [upd_ne q2]; exact h.hdx, upd_same, by rw [upd_ne q3.symm]; exact h.hg, by rw [upd_ne q4.symm]; exact h.hc, h.hcs.wr fun a m => (A.c a m).2.2.1, by rw [upd_ne q5.symm]; exact h.ho, by rw [upd_ne q6.symm]; exact h.hh, h.hv.wr fun a m => ⟨(A.v a m).1.2.2.1, (A.v a m).2.2.2.1⟩, h.hr⟩
theorem StAt.setG (h : StAt H C CV p dx at_ ag ac ao ah cas vas S) (A : Apart p dx at_ ag ac ao ah cas vas) (gs : List Int) : StAt (upd H ag (.lst (gs.map V.int))) C CV p dx at_ ag ac ao ah cas vas { S with given := gs } := by
  obtain ⟨⟨_, _, q1, _⟩, ⟨_, q2, _⟩, ⟨q3, _⟩, ⟨q4, q5, q6⟩, _⟩ := A.h
  exact ⟨by rw [upd_ne q1]; exact h.hp, by rw [upd_ne q2]; exact h.hdx, by rw [upd_ne q3]; exact h.ht, upd_same, by rw [upd_ne q4.symm]; exact h.hc, h.hcs.wr fun a m => (A.c a m).2.2.2.1, by rw [upd_ne q5.symm]; exact h.ho, by rw [upd_ne q6.symm]; exact h.hh, h.hv.wr fun a m => ⟨(A.v a m).1.2.2.2.1, (A.v a m).2.2.2.2.1⟩, h.hr⟩
theorem StAt.setV (h : StAt H C CV p dx at_ ag ac ao ah cas vas S) (A : Apart p dx at_ ag ac ao ah cas vas) {i : Nat} {a : Addr × Addr} {v : Str × Int × Int} (f : Str × Int × Int → Str × Int × Int) (ha : vas[i]? = some a) (hv : S.vals[i]? = some v) : StAt (upd H a.1 (.ins CV a.2 (vaF (f v)))) C CV p dx at_ ag ac ao ah cas vas { S with vals := S.vals.modify i f } := by
  have m : a ∈ vas := List.mem_of_getElem? ha
  obtain ⟨q1, q2, q3, q4, q5, q6, q7⟩ := (A.v a m).1
  exact ⟨by rw [upd_ne q1.symm]; exact h.hp, by rw [upd_ne q2.symm]; exact h.hdx, by rw [upd_ne q3.symm]; exact h.ht, by rw [upd_ne q4.symm]; exact h.hg, by rw [upd_ne q5.symm]; exact h.hc, h.hcs.wr fun b mb => (A.cv b mb a m).1, by rw [upd_ne q6.symm]; exact h.ho, by rw [upd_ne q7.symm]; exact h.hh, h.hv.set ha hv A.vv, fun q mq => by rw [List.length_modify]; exact h.hr q mq⟩
/-- a new object aside -/
theorem StAt.new (h : StAt H C CV p dx at_ ag ac ao ah cas vas S) {b : Addr} {o : HO} (hb : H b = none) : StAt (upd H b o) C CV p dx at_ ag ac ao ah cas vas S := by
  have nz : ∀ {c : Addr} {u : HO}, H c = some u → (upd H b o) c = some u := fun hc => by rw [upd_ne (ne_of_none hc hb)]; exact hc
  have lz : ∀ {as : List Addr} {xs : List (List Str)}, ListsAt H as xs → ListsAt (L2.upd H b o) as xs := fun l => by
    induction l with
    | nil => exact .nil
    | cons h _ ih => exact .cons (nz h) ih
  have vz : ∀ {as : List (Addr × Addr)} {vs : List (Str × Int × Int)}, ValsAt H CV as vs → ValsAt (L2.upd H b o) CV as vs := fun l => by
    induction l with
    | nil => exact .nil
    | cons h g _ ih => exact .cons (nz h) (nz g) ih
  exact ⟨nz h.hp, nz h.hdx, nz h.ht, nz h.hg, nz h.hc, lz h.hcs, nz h.ho, nz h.hh, vz h.hv, h.hr⟩
theorem valsLen (h : StAt H C CV p dx at_ ag ac ao ah cas vas S) : vas.length = S.vals.length := by
  have : ∀ {as : List (Addr × Addr)} {vs : List (Str × Int × Int)}, ValsAt H CV as vs → as.length = vs.length := fun l => by
    induction l with
    | nil => rfl
    | cons _ _ _ ih => rw [List.length_cons, List.length_cons, ih]
  exact this h.hv
/-- a new value, no name's yet -/
theorem StAt.addV (h : StAt H C CV p dx at_ ag ac ao ah cas vas S) {a : Addr × Addr} {v : Str × Int × Int} (h1 : H a.1 = some (.ins CV a.2 (vaF v))) (h2 : H a.2 = some (.own a.1)) : StAt H C CV p dx at_ ag ac ao ah cas (vas ++ [a]) { S with vals := S.vals ++ [v] } := by
  refine ⟨h.hp, h.hdx, h.ht, h.hg, h.hc, h.hcs, h.ho, ?_, h.hv.snoc h1 h2, fun q m => ?_⟩
  · have : (S.held.map fun q => (kS q.1, V.ref (((vas ++ [a]).map (·.1)).getD q.2 0))) = S.held.map fun q => (kS q.1, V.ref ((vas.map (·.1)).getD q.2 0)) := by
      apply List.map_congr_left
      intro q m
      have hq := h.hr q m
      rw [← valsLen h] at hq
      have : ((vas ++ [a]).map (·.1)).getD q.2 0 = (vas.map (·.1)).getD q.2 0 := by
        rw [List.getD_eq_getElem?_getD, List.getD_eq_getElem?_getD, List.map_append, List.getElem?_append_left (by rw [List.length_map]; exact hq)]
      rw [this]
    rw [this]
    exact h.hh
  · rw [List.length_append]
    have := h.hr q m
    omega
end
end PL
namespace PL
open PySem L2 PySem.Spec PyProof.Rows

def hidL (O : Hid) (fp : List Addr) : Hid := fun a => O a || decide (a ∈ fp)
theorem hidL_mem {O : Hid} {fp : List Addr} {a : Addr} (m : a ∈ fp) : hidL O fp a = true := by unfold hidL; simp [m]
theorem hidL_of {O : Hid} {fp : List Addr} {a : Addr} (h : O a = true) : hidL O fp a = true := by unfold hidL; rw [h]; rfl
theorem hidL_or {O : Hid} {fp : List Addr} {a : Addr} (h : hidL O fp a = true) : O a = true ∨ a ∈ fp := by
  unfold hidL at h
  simpa using h
section
variable {K : PySem.W.Frag} {base : Hp} {O0 O : Hid} {σ : L2.St} {H H' : Hp} {env : PL.Env}
/-- what is seen stays seen when fp' is hidden besides, and all but fp stays -/
theorem vis_moved {fp fp' : List Addr} (keep : ∀ b o, H b = some o → b ∉ fp → H' b = some o) (newc : ∀ b ∈ fp', b ∈ fp ∨ H b = none) (hf : ∀ a ∈ fp, O a = true) : PL.Ex (vis O H) (vis (hidL O fp') H') := fun b o hb => by
  have h1 := vis_le b o hb
  have nb : O b = false := by
    cases z : O b with
    | false => rfl
    | true =>
      unfold vis at hb
      rw [if_pos z] at hb
      cases hb
  have nf : b ∉ fp := fun m => by rw [hf b m] at nb; cases nb
  refine vis_at ?_ (keep b o h1 nf)
  cases z : hidL O fp' b with
  | false => rfl
  | true =>
    rcases hidL_or z with z | z
    · rw [z] at nb; cases nb
    · rcases newc b z with m | m
      · exact absurd m nf
      · rw [m] at h1; cases h1
/-- a new object becomes hidden, slot i holds it -/
theorem Sat.setOb {i : Nat} {v : V} {fp : List Addr} {s : ObS} (S : Sat K base O0 O σ H env) (e : PL.Ex H H') (fr : ∀ b ∈ fp, H b = none) (r : ObR K v fp H' (vis (hidL O fp) H') s) (hi : i < env.length) : Sat K base O0 (hidL O fp) (σ.set i (some v)) H' (env.set i (.ob s)) := by
  obtain ⟨fps, S⟩ := S
  have bn : ∀ b ∈ fp, base b = none := fun b m => S.ex.free (fr b m)
  have np : ∀ j, ∀ a ∈ fps j, a ∉ fp := fun j a m q => S.all a (S.cells j a m).1 (fr a q)
  refine ⟨_, S.put (O' := hidL O fp) (H' := H') (fp := fp) (S.ex.trans e) (vis_moved (fp := []) (fun b o hb _ => e b o hb) (fun b m => .inr (fr b m)) (fun a m => nomatch m)) (fun a q => ?_) (fun a q => hidL_of (S.sub a q)) (fun a q z => ?_) (fun j n a m => ⟨keeps (S.all a (S.cells j a m).1) e, hidL_of (S.cells j a m).1, np j a m⟩) ⟨v, rfl, fun a m => ⟨hidL_mem m, bn a m⟩, r⟩ hi⟩
  · rcases hidL_or q with q | q
    · exact S.new a q
    · exact .inr (bn a q)
  · rcases hidL_or q with q | q
    · exact S.all a q (e.free z)
    · exact r.2.1 a q z
/-- the object of slot i is changed -/
theorem Sat.mutOb {i : Nat} {s : ObS} (S : Sat K base O0 O σ H env) (hi : env[i]? = some (.ob s)) : ∃ v fp, σ[i]? = some (some v) ∧ (∀ a ∈ fp, O a = true ∧ base a = none) ∧ ObR K v fp H (vis O H) s ∧
    ∀ (H' : Hp) (fp' : List Addr) (s' : ObS), Moved H H' fp fp' → ObR K v fp' H' (vis (hidL O fp') H') s' → PL.Ex (vis O H) (vis (hidL O fp') H') ∧ Sat K base O0 (hidL O fp') σ H' (env.set i (.ob s')) := by
  obtain ⟨fps, S⟩ := S
  have hil : i < env.length := (List.getElem?_eq_some_iff.mp hi).1
  have hs : i < σ.length := by rw [S.len]; exact hil
  obtain ⟨v, hx, oa, r⟩ := S.sl i _ _ (List.getElem?_eq_getElem hs) hi
  have hx' : σ[i]? = some (some v) := by rw [List.getElem?_eq_getElem hs, hx]
  refine ⟨v, fps i, hx', oa, r, fun H' fp' s' M r' => ?_⟩
  have ev := vis_moved (O := O) M.keep M.newc (fun a m => (oa a m).1)
  have es_ : σ.set i (some v) = σ := by
    apply List.ext_getElem?
    intro k
    by_cases q : i = k
    · subst q
      rw [List.getElem?_set_self hs, hx']
    · rw [List.getElem?_set_ne q]
  have g := S.put (O' := hidL O fp') (H' := H') (fp := fp') (i := i) (x := some v) (s := .ob s') (fun b o hb => M.keep b o (S.ex b o hb) fun m => by rw [(oa b m).2] at hb; cases hb) ev (fun a q => by
      rcases hidL_or q with q | q
      · exact S.new a q
      · rcases M.newc a q with m | m
        · exact .inr (oa a m).2
        · exact .inr (S.ex.free m)) (fun a q => hidL_of (S.sub a q)) (fun a q => by
      rcases hidL_or q with q | q
      · exact M.live a (S.all a q)
      · exact r'.2.1 a q)
    (fun j n a m => by
      have nf : a ∉ fps i := fun q => S.sep j i a n m q
      have la := S.all a (S.cells j a m).1
      refine ⟨?_, hidL_of (S.cells j a m).1, fun q => ?_⟩
      · cases z : H a with
        | none => exact absurd z la
        | some o => exact M.keep a o z nf
      · rcases M.newc a q with z | z
        · exact nf z
        · exact la z) ⟨v, rfl, fun a m => ⟨hidL_mem m, (by
      rcases M.newc a m with z | z
      · exact (oa a z).2
      · exact S.ex.free z)⟩, r'⟩ hil
  rw [es_] at g
  exact ⟨ev, _, g⟩
/-! ### Stores -/
theorem StAt.sub {H H' : Hp} {C CV p dx at_ ag ac ao ah : Addr} {cas : List Addr} {vas : List (Addr × Addr)} {S : SM} (h : StAt H C CV p dx at_ ag ac ao ah cas vas S) (m : ∀ a ∈ stFp p dx at_ ag ac ao ah cas vas, ∀ o, H a = some o → H' a = some o) : StAt H' C CV p dx at_ ag ac ao ah cas vas S := by
  unfold stFp at m
  have lz : ∀ {as : List Addr} {xs : List (List Str)}, ListsAt H as xs → (∀ a ∈ as, ∀ o, H a = some o → H' a = some o) → ListsAt H' as xs := fun l => by
    induction l with
    | nil => exact fun _ => .nil
    | cons g _ ih => exact fun z => .cons (z _ (List.mem_cons_self ..) _ g) (ih fun a m => z a (List.mem_cons_of_mem _ m))
  have vz : ∀ {as : List (Addr × Addr)} {vs : List (Str × Int × Int)}, ValsAt H CV as vs → (∀ a ∈ as, (∀ o, H a.1 = some o → H' a.1 = some o) ∧ ∀ o, H a.2 = some o → H' a.2 = some o) → ValsAt H' CV as vs := fun l => by
    induction l with
    | nil => exact fun _ => .nil
    | cons g k _ ih => exact fun z => .cons ((z _ (List.mem_cons_self ..)).1 _ g) ((z _ (List.mem_cons_self ..)).2 _ k) (ih fun a m => z a (List.mem_cons_of_mem _ m))
  refine ⟨m p (by simp) _ h.hp, m dx (by simp) _ h.hdx, m at_ (by simp) _ h.ht, m ag (by simp) _ h.hg, m ac (by simp) _ h.hc, lz h.hcs fun a ma => m a (by simp [ma]), m ao (by simp) _ h.ho, m ah (by simp) _ h.hh, vz h.hv fun a ma => ⟨m a.1 ?_, m a.2 ?_⟩, h.hr⟩
  · simp only [List.mem_cons, List.mem_append]
    exact .inr (.inr (.inr (.inr (.inr (.inr (.inr (.inr (.inl (List.mem_map_of_mem ma)))))))))
  · simp only [List.mem_cons, List.mem_append]
    exact .inr (.inr (.inr (.inr (.inr (.inr (.inr (.inr (.inr (List.mem_map_of_mem ma)))))))))
theorem StAt.live {H : Hp} {C CV p dx at_ ag ac ao ah : Addr} {cas : List Addr} {vas : List (Addr × Addr)} {S : SM} (h : StAt H C CV p dx at_ ag ac ao ah cas vas S) : ∀ a ∈ stFp p dx at_ ag ac ao ah cas vas, H a ≠ none := fun b m => by
  have hb : ∃ o, H b = some o := by
    unfold stFp at m
    simp only [List.mem_cons, List.mem_append, List.mem_map] at m
    rcases m with rfl | rfl | rfl | rfl | rfl | rfl | rfl | m | ⟨c, m, rfl⟩ | ⟨c, m, rfl⟩
    · exact ⟨_, h.hp⟩
    · exact ⟨_, h.hdx⟩
    · exact ⟨_, h.ht⟩
    · exact ⟨_, h.hg⟩
    · exact ⟨_, h.hc⟩
    · exact ⟨_, h.ho⟩
    · exact ⟨_, h.hh⟩
    · have : ∀ {as : List Addr} {xs : List (List Str)}, ListsAt H as xs → b ∈ as → ∃ o, H b = some o := fun l => by
        induction l with
        | nil => exact fun z => nomatch z
        | cons g _ ih => exact fun z => (List.mem_cons.mp z).elim (fun e => ⟨_, e ▸ g⟩) ih
      exact this h.hcs m
    · have : ∀ {as : List (Addr × Addr)} {vs : List (Str × Int × Int)}, ValsAt H CV as vs → c ∈ as → ∃ o, H c.1 = some o := fun l => by
        induction l with
        | nil => exact fun z => nomatch z
        | cons g _ _ ih => exact fun z => (List.mem_cons.mp z).elim (fun e => ⟨_, e ▸ g⟩) ih
      exact this h.hv m
    · have : ∀ {as : List (Addr × Addr)} {vs : List (Str × Int × Int)}, ValsAt H CV as vs → c ∈ as → ∃ o, H c.2 = some o := fun l => by
        induction l with
        | nil => exact fun z => nomatch z
        | cons _ g _ ih => exact fun z => (List.mem_cons.mp z).elim (fun e => ⟨_, e ▸ g⟩) ih
      exact this h.hv m
  obtain ⟨o, hb⟩ := hb
  rw [hb]
  exact fun z => nomatch z
theorem obr_st {B : Hp} {C CV p dx at_ ag ac ao ah : Addr} {cas : List Addr} {vas : List (Addr × Addr)} {S : SM} (h : StAt H C CV p dx at_ ag ac ao ah cas vas S) (nd : (stFp p dx at_ ag ac ao ah cas vas).Nodup) : ObR K (.ref p) (stFp p dx at_ ag ac ao ah cas vas) H B (.st C CV S) :=
  ⟨nd, h.live, p, dx, at_, ag, ac, ao, ah, cas, vas, rfl, rfl, h.sub fun a m o ho => rst_at m ho⟩
theorem st_obr {B : Hp} {v : V} {fp : List Addr} {C CV : Addr} {S : SM} (r : ObR K v fp H B (.st C CV S)) : ∃ p dx at_ ag ac ao ah cas vas, v = .ref p ∧ fp = stFp p dx at_ ag ac ao ah cas vas ∧ StAt H C CV p dx at_ ag ac ao ah cas vas S ∧ (stFp p dx at_ ag ac ao ah cas vas).Nodup := by
  obtain ⟨nd, _, p, dx, at_, ag, ac, ao, ah, cas, vas, rfl, rfl, h⟩ := r
  exact ⟨p, dx, at_, ag, ac, ao, ah, cas, vas, rfl, rfl, h.sub fun a m o ho => (rst_some ho).2, nd⟩
end
end PL
namespace PL
open PySem L2 PySem.Spec PyProof.Rows
/-! ### plots as data -/
def decP : PyData → Option (Str × Option Str)
  | .tuple [.str n, .none] => some (n, none)
  | .tuple [.str n, .str o] => some (n, some o)
  | _ => none
def decL {α : Type} (f : PyData → Option α) : List PyData → Option (List α)
  | [] => some []
  | d :: ds => (f d).bind fun x => (decL f ds).map (x :: ·)
def decPs : PyData → Option (List (Str × Option Str))
  | .list ds => decL decP ds
  | _ => none
theorem decP_enc (q : Str × Option Str) : decP (encP q) = some q := by
  obtain ⟨n, o⟩ := q
  cases o <;> rfl
theorem enc_decP {d : PyData} {q : Str × Option Str} (h : decP d = some q) : d = encP q := by
  unfold decP at h
  split at h
  · cases h
    rfl
  · cases h
    rfl
  · cases h
theorem decL_map {α : Type} {f : PyData → Option α} {g : α → PyData} (h : ∀ a, f (g a) = some a) : ∀ l : List α, decL f (l.map g) = some l
  | [] => rfl
  | a :: l => by
    show (f (g a)).bind (fun x => (decL f (l.map g)).map (x :: ·)) = _
    rw [h, decL_map h l]
    rfl
theorem decL_inv {α : Type} {f : PyData → Option α} {g : α → PyData} (h : ∀ d a, f d = some a → d = g a) : ∀ {ds : List PyData} {l : List α}, decL f ds = some l → ds = l.map g
  | [], l, e => by cases e; rfl
  | d :: ds, l, e => by
    have e' : (f d).bind (fun x => (decL f ds).map (x :: ·)) = some l := e
    cases k : f d with
    | none => rw [k] at e'; cases e'
    | some a =>
      cases k2 : decL f ds with
      | none => rw [k, k2] at e'; cases e'
      | some r =>
        rw [k, k2] at e'
        cases e'
        rw [h d a k, decL_inv h k2]
        rfl
theorem decPs_enc (ps : List (Str × Option Str)) : decPs (encPs ps) = some ps := decL_map decP_enc ps
theorem enc_decPs {d : PyData} {ps : List (Str × Option Str)} (h : decPs d = some ps) : d = encPs ps := by
  unfold decPs at h
  split at h
  · exact congrArg PyData.list (decL_inv (fun _ _ => enc_decP) h)
  · cases h
/-! ### sorted of ints, list(range(n)) -/
def asInts : List PyData → Option (List Int) := decL asI
theorem asInts_inv {ds : List PyData} {l : List Int} (h : asInts ds = some l) : ds = l.map PyData.int := decL_inv (fun d a e => by
  unfold asI at e
  split at e
  · cases e; rfl
  · cases e) h
theorem rp_ints {K : PySem.W.Frag} {H : Hp} : ∀ {ws : List V} {l : List Int}, RpAll K H ws (l.map PyData.int) → ws = l.map V.int
  | ws, [], h => by
    cases h
    rfl
  | ws, z :: l, h => by
    cases h with
    | cons r t =>
      cases r
      rw [rp_ints t]
      rfl
def nSorted (f : PL.Env → Option (List PyData)) : PL.Env → Option (List PyData) := fun env => (f env).bind fun
  | [d] => (asLS d).bind fun ds => (asInts ds).map fun ns => (ns.mergeSort (fun a b => decide (a ≤ b))).map PyData.int
  | _ => none
theorem sorted_one {a b : List Int} (p : a.Perm b) (ha : a.Pairwise (· ≤ ·)) (hb : b.Pairwise (· ≤ ·)) : a = b :=
  List.Perm.eq_of_pairwise (fun x y _ _ h1 h2 => Int.le_antisymm h1 h2) ha hb p
section
variable {K : PySem.W.Frag} {X : Cx} {e a : Expr} {es : List Expr} {te : TE} {tr : TA} {f : PL.Env → Option PyData} {fr : PL.Env → Option (List PyData)} {p pos : Pos}
theorem ms_sorted (ns : List Int) : (ns.mergeSort (fun a b => decide (a ≤ b))).Pairwise (· ≤ ·) := by
  have h := List.pairwise_mergeSort (le := fun (a b : Int) => decide (a ≤ b)) (by intro a b c; simp; omega) (by intro a b; simp; omega) ns
  exact h.imp (by intro a b; simp)
theorem den_sorted {K : PySem.W.Frag} {tr : TA} {fr : PL.Env → Option (List PyData)} (h : DenA K tr fr) : DenN K (tCB (rSortedI K) tr) (nSorted fr) := by
  intro base O0 O σ H env ds S e Q q
  unfold nSorted at e
  cases k1 : fr env with
  | none => simp [k1] at e
  | some xs =>
    simp only [k1, Option.bind_some] at e
    split at e
    · rename_i d
      cases k2 : asLS d with
      | none => simp [k2] at e
      | some es =>
        simp only [k2, Option.bind_some] at e
        cases k3 : asInts es with
        | none => simp [k3] at e
        | some ns =>
          simp only [k3, Option.map_some] at e
          cases e
          refine h base O0 O σ H env _ S k1 _ fun vs H1 x1 r1 => ?_
          cases r1 with
          | cons o t =>
            cases t
            obtain ⟨a, ws, rfl, hs, r⟩ := asLS_opd o k2
            have he := asInts_inv k3
            subst he
            have hw := rp_ints r
            subst hw
            refine ⟨a, ns, rfl, hs, fun ns' p pm so hp => ?_⟩
            have e1 : ns' = ns.mergeSort (fun a b => decide (a ≤ b)) := sorted_one (pm.trans (List.mergeSort_perm ns _).symm) so (ms_sorted ns)
            subst e1
            exact q p _ _ (x1.free hp) (x1.trans (PL.Ex.new hp)) upd_same (RpAll.ints _)
    · cases e
theorem fSorted (hm : X.mg "sorted" = none) (hg : Gl X "sorted" := by rfl) (ha : EA K X (e :: es) tr fr) (he : starEach (e :: es) X.env = (false, eval e X.env) :: starEach es X.env := by rfl) (hpl : (backTo pos (starEach es X.env)).any (·.1) = false := by rfl) (hK : X.K = K := by rfl) :
    EN K X (.Call (.Name "sorted" p) (e :: es) [] pos) (tCB (rSortedI K) tr) (nSorted fr) := by
  subst hK
  exact ⟨pe_callB cr_sortedI hg hm (by decide +kernel) ha.pe (by decide) (by decide) he hpl, den_sorted ha.de⟩
/-- list(range(n)) -/
def nRange (f : PL.Env → Option PyData) : PL.Env → Option (List PyData) := fun env => (f env).bind fun
  | .int n => if -100000 ≤ n ∧ n ≤ 100000 then some (rgD 0 n.toNat) else none
  | _ => none
theorem rp_rg {H : Hp} (n : Int) : RpAll K H (rgV 0 n) (rgD 0 n.toNat) := by
  unfold rgV rgD
  rw [Int.sub_zero]
  generalize List.range n.toNat = l
  induction l with
  | nil => exact .nil
  | cons a r ih => exact .cons (.int _) ih
theorem fListRange {q1 q2 q3 : Pos} (hl : X.mg "list" = none) (hm : X.mg "range" = none) (ha : EO K X a te f) (hc : X.calm = true := by rfl) (hg : Gl X "range" := by rfl) (hgl : Gl X "list" := by rfl) (na : starEach [a] X.env = (false, eval a X.env) :: starEach [] X.env := by rfl)
    (nb : starEach [.Call (.Name "range" q1) [a] [] q2] X.env = (false, eval (.Call (.Name "range" q1) [a] [] q2) X.env) :: starEach [] X.env := by rfl) :
    EN K X (.Call (.Name "list" q3) [.Call (.Name "range" q1) [a] [] q2] [] pos) (tLstRg (tRg1 te)) (nRange f) := by
  refine ⟨pe_listRg hc hgl hl (prg_1 hg hm ha.pe na) nb, ?_⟩
  intro base O0 O σ H env ds S e Q q
  unfold nRange at e
  cases k1 : f env with
  | none => simp [k1] at e
  | some d =>
    simp only [k1, Option.bind_some] at e
    split at e
    · split at e
      · cases e
        rename_i n hn
        refine ha.de base O0 O σ H env _ S k1 _ fun v H1 x1 o => ⟨n, o.int, ⟨by omega, by omega, by omega, by omega, by omega⟩, fun p hp => ?_⟩
        exact q p _ _ (x1.free hp) (x1.trans (PL.Ex.new hp)) upd_same (rp_rg n)
      · cases e
    · cases e
end
end PL
/-! Plain mathematics over the functions of data. -/
namespace PL
open PySem L2

theorem lc_gen {G : PyData → PL.Env → Option PL.Env} {t : PL.Env → Option Bool} {f : PL.Env → Option PyData} {env : PL.Env} (E : PyData → PL.Env) (p : PyData → Bool) (g : PyData → PyData) : ∀ xs : List PyData, (∀ x ∈ xs, G x env = some (E x)) → (∀ x ∈ xs, t (E x) = some (p x)) → (∀ x ∈ xs, p x = true → f (E x) = some (g x)) → lcGo G t f env xs = some ((xs.filter p).map g)
  | [], _, _, _ => rfl
  | x :: xs, hG, ht, hf => by
    have ih := lc_gen E p g xs (fun y m => hG y (List.mem_cons_of_mem _ m)) (fun y m => ht y (List.mem_cons_of_mem _ m)) (fun y m => hf y (List.mem_cons_of_mem _ m))
    have m := List.mem_cons_self (a := x) (l := xs)
    unfold lcGo
    rw [hG x m, Option.bind_some, ht x m, Option.bind_some, ih]
    cases e : p x with
    | true =>
      rw [if_pos rfl, hf x m e, Option.bind_some, List.filter_cons, if_pos e]
      rfl
    | false =>
      rw [if_neg Bool.false_ne_true, List.filter_cons, if_neg (by rw [e]; decide)]
theorem lc_all {G : PyData → PL.Env → Option PL.Env} {f : PL.Env → Option PyData} {env : PL.Env} (E : PyData → PL.Env) (g : PyData → PyData) (xs : List PyData) (hG : ∀ x ∈ xs, G x env = some (E x)) (hf : ∀ x ∈ xs, f (E x) = some (g x)) : lcGo G (fun _ => some true) f env xs = some (xs.map g) := by
  rw [lc_gen E (fun _ => true) g xs hG (fun _ _ => rfl) (fun x m _ => hf x m), List.filter_eq_self.mpr (fun _ _ => rfl)]
/-- a loop whose names are told turn by turn -/
theorem for_gen {G : PyData → PL.Env → Option PL.Env} {F : PL.Env → Option Out} (E : Nat → PL.Env) : ∀ (xs : List PyData) (k : Nat), (∀ i x, xs[i]? = some x → (G x (E (k + i))).bind F = some (.nx (E (k + i + 1)))) → fGo G F xs (E k) = some (.nx (E (k + xs.length)))
  | [], k, _ => rfl
  | x :: xs, k, h => by
    have h0 := h 0 x rfl
    rw [Nat.add_zero] at h0
    unfold fGo
    cases kg : G x (E k) with
    | none => rw [kg] at h0; cases h0
    | some e1 =>
      rw [kg, Option.bind_some] at h0
      rw [Option.bind_some, h0, Option.bind_some]
      show fGo G F xs (E (k + 1)) = _
      rw [for_gen E xs (k + 1) fun i y hy => by
        have := h (i + 1) y hy
        rw [show k + (i + 1) = k + 1 + i by omega] at this
        exact this]
      rw [List.length_cons, show k + 1 + xs.length = k + (xs.length + 1) by omega]
/-- a loop by a word -/
theorem for_inv {G : PyData → PL.Env → Option PL.Env} {F : PL.Env → Option Out} (I : Nat → PL.Env → Prop) : ∀ (xs : List PyData) (k : Nat) (env : PL.Env), I k env → (∀ i x e, xs[i]? = some x → I (k + i) e → ∃ e', ((G x e).bind F = some (.nx e') ∨ (G x e).bind F = some (.ct e')) ∧ I (k + i + 1) e') → ∃ e', fGo G F xs env = some (.nx e') ∧ I (k + xs.length) e'
  | [], k, env, h0, _ => ⟨env, rfl, h0⟩
  | x :: xs, k, env, h0, h => by
    obtain ⟨e1, h1, h2⟩ := h 0 x env rfl (by rw [Nat.add_zero]; exact h0)
    rw [Nat.add_zero] at h2
    have hg : ∃ e0, G x env = some e0 ∧ (F e0 = some (.nx e1) ∨ F e0 = some (.ct e1)) := by
      cases kg : G x env with
      | none => rw [kg] at h1; rcases h1 with h1 | h1 <;> cases h1
      | some e0 => rw [kg] at h1; exact ⟨e0, rfl, h1⟩
    obtain ⟨e0, kg, hf⟩ := hg
    obtain ⟨e2, h3, h4⟩ := for_inv I xs (k + 1) e1 h2 fun i y e hy hi => by
      have := h (i + 1) y e hy (by rw [show k + (i + 1) = k + 1 + i by omega]; exact hi)
      rw [show k + (i + 1) + 1 = k + 1 + i + 1 by omega] at this
      exact this
    refine ⟨e2, ?_, by rw [List.length_cons, show k + (xs.length + 1) = k + 1 + xs.length by omega]; exact h4⟩
    unfold fGo
    rw [kg, Option.bind_some]
    rcases hf with hf | hf <;> (rw [hf, Option.bind_some]; exact h3)
/-! ### texts -/
def cs (z : Str) : List Nat := z.cps.toList
theorem cs_inj {a b : Str} (h : cs a = cs b) : a = b := by
  cases a
  cases b
  congr 1
  exact Array.toList_inj.mp h
theorem cs_app (a b : Str) : cs (a ++ b) = cs a ++ cs b := by
  unfold cs
  rw [Str.cps_append, Array.toList_append]
theorem cs_len (a : Str) : (cs a).length = a.length := by
  unfold cs
  rw [Array.length_toList]
  rfl
theorem cs_cut_to (z : Str) (k : Nat) : cs (cutS z none (some (k : Int))) = (cs z).take k := by
  unfold cutS cs
  rw [HT.sIx_none, HT.sIx_nat, List.drop_zero, Nat.sub_zero]
  show (List.take (min k z.length) z.cps.toList) = _
  by_cases h : k ≤ z.length
  · rw [Nat.min_eq_left h]
  · rw [Nat.min_eq_right (by omega), List.take_of_length_le (by rw [Array.length_toList]; exact Nat.le_refl _), List.take_of_length_le (by rw [Array.length_toList]; show z.length ≤ k; omega)]
theorem cs_cut_from (z : Str) (k : Nat) : cs (cutS z (some (k : Int)) none) = (cs z).drop k := by
  unfold cutS cs
  rw [HT.sIx_none, HT.sIx_nat]
  show (List.take (z.length - min k z.length) (List.drop (min k z.length) z.cps.toList)) = _
  by_cases h : k ≤ z.length
  · rw [Nat.min_eq_left h, List.take_of_length_le]
    rw [List.length_drop, Array.length_toList]
    exact Nat.le_refl _
  · rw [Nat.min_eq_right (by omega), Nat.sub_self, List.take_zero, List.drop_eq_nil_of_le]
    rw [Array.length_toList]
    show z.length ≤ k
    omega
theorem cs_join (l : List Nat) : cs (Txt.join "" (l.map fun c => (⟨#[c]⟩ : Str))) = l := by
  rw [TL.join_eq]
  have h := TL.tl_join "" (l.map fun c => (⟨#[c]⟩ : Str))
  have : ∀ l : List Nat, TL.joinL (TL.tl "") ((l.map fun c => (⟨#[c]⟩ : Str)).map TL.tl) = l := fun l => by
    induction l with
    | nil => rfl
    | cons a r ih =>
      cases r with
      | nil => rfl
      | cons b r =>
        show [a] ++ (([] : List Nat) ++ TL.joinL (TL.tl "") (((b :: r).map fun c => (⟨#[c]⟩ : Str)).map TL.tl)) = _
        rw [ih]
        rfl
  rw [this] at h
  exact h
/-- a text of small letters, short -/
structure Nm (z : Str) : Prop where
  low : ∀ c ∈ cs z, 97 ≤ c ∧ c ≤ 122
  len : (cs z).length ≤ 8
theorem Nm.ok {z : Str} (h : Nm z) : PyData.strOk z = true := by
  unfold PyData.strOk
  rw [← Array.all_toList, List.all_eq_true]
  intro c m
  have := h.low c m
  simp
  omega
theorem shaped_str {z : Str} (h : PyData.strOk z = true) : SeqAt.shaped (.str z) = true := by
  unfold SeqAt.shaped
  have : PyData.canLay0 (.str z) = PyData.strOk z := rfl
  rw [this, h]
  rfl
theorem shaped_int (i : Int) : SeqAt.shaped (.int i) = true := rfl
theorem shaped_none : SeqAt.shaped .none = true := rfl
theorem canLayAll_iff : ∀ {ds : List PyData}, PyData.canLayAll0 ds = true ↔ ∀ d ∈ ds, d.canLay0 = true
  | [] => by simp [PyData.canLayAll0]
  | d :: ds => by
    rw [canLayAll_cons, Bool.and_eq_true, canLayAll_iff]
    simp
theorem depthAll_le {n : Nat} : ∀ {ds : List PyData}, (∀ d ∈ ds, d.depth ≤ n) → PyData.depthAll ds ≤ n
  | [], _ => Nat.zero_le _
  | d :: ds, h => by
    show max d.depth (PyData.depthAll ds) ≤ n
    have h1 := h d (List.mem_cons_self ..)
    have h2 := depthAll_le (ds := ds) fun e m => h e (List.mem_cons_of_mem _ m)
    omega
/-- fit to be compared, at most n deep -/
def Fit (n : Nat) (d : PyData) : Prop := d.canLay0 = true ∧ d.depth ≤ n
theorem Fit.sh {n : Nat} {d : PyData} (h : Fit n d) (hn : n ≤ 64) : SeqAt.shaped d = true := by
  unfold SeqAt.shaped
  rw [h.1, Bool.true_and, decide_eq_true (Nat.le_trans h.2 hn)]
theorem fit_list {n : Nat} {ds : List PyData} (h : ∀ d ∈ ds, Fit n d) : Fit (n + 1) (.list ds) := ⟨canLayAll_iff.mpr fun d m => (h d m).1, by
  show PyData.depthAll ds + 1 ≤ n + 1
  have := depthAll_le fun d m => (h d m).2
  omega⟩
theorem fit_tup {n : Nat} {ds : List PyData} (h : ∀ d ∈ ds, Fit n d) : Fit (n + 1) (.tuple ds) := ⟨canLayAll_iff.mpr fun d m => (h d m).1, by
  show PyData.depthAll ds + 1 ≤ n + 1
  have := depthAll_le fun d m => (h d m).2
  omega⟩
theorem fit_str {z : Str} (n : Nat) (h : PyData.strOk z = true) : Fit n (.str z) := ⟨h, Nat.zero_le _⟩
theorem fit_int (n : Nat) (i : Int) : Fit n (.int i) := ⟨rfl, Nat.zero_le _⟩
theorem fit_none (n : Nat) : Fit n .none := ⟨rfl, Nat.zero_le _⟩
theorem fit_bool (n : Nat) (b : Bool) : Fit n (.bool b) := ⟨rfl, Nat.zero_le _⟩
theorem eqv_str (a b : Str) : PyData.eqv (.str a) (.str b) = decide (a = b) := by
  show (a == b) = _
  rw [Bool.eq_iff_iff]
  simp
theorem eqv_int (a b : Int) : PyData.eqv (.int a) (.int b) = decide (a = b) := by
  show (a == b) = _
  rw [Bool.eq_iff_iff]
  simp
/-- what no two numbers and truths are: equal by == just where they are one -/
theorem eqvAll_refl_of {P : PyData → Prop} : ∀ {xs ys : List PyData}, (∀ x ∈ xs, ∀ y ∈ ys, (PyData.eqv x y = true ↔ x = y)) → (PyData.eqvAll xs ys = true ↔ xs = ys)
  | [], [], _ => by simp [PyData.eqvAll]
  | [], _ :: _, _ => by simp [PyData.eqvAll]
  | _ :: _, [], _ => by simp [PyData.eqvAll]
  | x :: xs, y :: ys, h => by
    show (PyData.eqv x y && PyData.eqvAll xs ys) = true ↔ _
    rw [Bool.and_eq_true, h x (List.mem_cons_self ..) y (List.mem_cons_self ..), eqvAll_refl_of (P := P) fun a m b n => h a (List.mem_cons_of_mem _ m) b (List.mem_cons_of_mem _ n)]
    simp
theorem cmul_l {i j : Int} (h : -18446744073709551616 < i ∧ i < 18446744073709551616) : cMul i j = true := by unfold cMul; exact decide_eq_true (.inl h)
theorem cmul_r {i j : Int} (h : -18446744073709551616 < j ∧ j < 18446744073709551616) : cMul i j = true := by unfold cMul; exact decide_eq_true (.inr h)
theorem cdiv_ {i j : Int} (h : 0 < j ∧ j < 1073741824) : cDiv i j = true := decide_eq_true h
theorem cmod_ {i j : Int} (h : 0 < j) : cMod i j = true := decide_eq_true h
theorem seq_asg {f : PL.Env → Option PyData} {i : Nat} {F : PL.Env → Option Out} {env : PL.Env} {d : PyData} (h : f env = some d) : sSeq (sAsg f (tgN i)) F env = F (env.set i (.sh d)) := by
  unfold sSeq sAsg
  rw [h]
  rfl
theorem mul_ev {a b : PL.Env → Option PyData} {env : PL.Env} {i j : Int} (ha : a env = some (.int i)) (hb : b env = some (.int j)) (h : cMul i j = true) : e2 (gIC cMul (· * ·)) a b env = some (.int (i * j)) := by
  unfold e2
  rw [ha, hb]
  show (if cMul i j then some (PyData.int (i * j)) else none) = _
  rw [if_pos h]
theorem div_ev {a b : PL.Env → Option PyData} {env : PL.Env} {i j : Int} (ha : a env = some (.int i)) (hb : b env = some (.int j)) (h : 0 < j ∧ j < 1073741824) : e2 (gIC cDiv (· / ·)) a b env = some (.int (i / j)) := by
  unfold e2
  rw [ha, hb]
  show (if cDiv i j then some (PyData.int (i / j)) else none) = _
  rw [if_pos (cdiv_ h)]
theorem mod_ev {a b : PL.Env → Option PyData} {env : PL.Env} {i j : Int} (ha : a env = some (.int i)) (hb : b env = some (.int j)) (h : 0 < j) : e2 (gIC cMod (· % ·)) a b env = some (.int (i % j)) := by
  unfold e2
  rw [ha, hb]
  show (if cMod i j then some (PyData.int (i % j)) else none) = _
  rw [if_pos (cmod_ h)]
theorem add_ev {a b : PL.Env → Option PyData} {env : PL.Env} {i j : Int} (ha : a env = some (.int i)) (hb : b env = some (.int j)) : e2 gAdd a b env = some (.int (i + j)) := by
  unfold e2
  rw [ha, hb]
  rfl
theorem sub_ev {a b : PL.Env → Option PyData} {env : PL.Env} {i j : Int} (ha : a env = some (.int i)) (hb : b env = some (.int j)) : e2 (gI (· - ·)) a b env = some (.int (i - j)) := by
  unfold e2
  rw [ha, hb]
  rfl
theorem cat_ev {a b : PL.Env → Option PyData} {env : PL.Env} {x y : Str} (ha : a env = some (.str x)) (hb : b env = some (.str y)) (h : x.length + y.length ≤ 100000) : e2 gAdd a b env = some (.str (x ++ y)) := by
  unfold e2
  rw [ha, hb]
  show (if x.length + y.length ≤ 100000 then some (PyData.str (x ++ y)) else none) = _
  rw [if_pos h]
theorem eqi_ev {a b : PL.Env → Option PyData} {env : PL.Env} {i j : Int} (ha : a env = some (.int i)) (hb : b env = some (.int j)) : tE (e2 gEq a b) env = some (decide (i = j)) := by
  unfold tE e2
  rw [ha, hb]
  show (some (PyData.bool (PyData.eqv (.int i) (.int j)))).bind asB = _
  rw [eqv_int]
  rfl
theorem lent_ev {f : PL.Env → Option PyData} {env : PL.Env} {z : Str} (h : f env = some (.str z)) (hl : z.length ≤ 100000) : eA gLen (aCons f aNil) env = some (.int z.length) := by
  unfold eA aCons aNil
  rw [h]
  show (if z.length ≤ 100000 then some (PyData.int z.length) else none) = _
  rw [if_pos hl]
theorem ix_ev {a b : PL.Env → Option PyData} {env : PL.Env} {ds : List PyData} {i : Int} {d : PyData} (ha : a env = some (.list ds)) (hb : b env = some (.int i)) (h : atI ds i = some d) : e2 gIx a b env = some d := by
  unfold e2
  rw [ha, hb]
  exact h
theorem ixt_ev {a b : PL.Env → Option PyData} {env : PL.Env} {ds : List PyData} {i : Int} {d : PyData} (ha : a env = some (.tuple ds)) (hb : b env = some (.int i)) (h : atI ds i = some d) : e2 gIx a b env = some d := by
  unfold e2
  rw [ha, hb]
  exact h
theorem atI_nat' {α : Type} {l : List α} {n : Nat} {x : α} (h : l[n]? = some x) : atI l (n : Int) = some x := by
  have hn := (List.getElem?_eq_some_iff.mp h).1
  unfold atI ixN
  rw [if_pos (by omega), if_pos (by omega)]
  exact h
theorem lt_ev {a b : PL.Env → Option PyData} {env : PL.Env} {i j : Int} (ha : a env = some (.int i)) (hb : b env = some (.int j)) : tE (e2 (gB fun i j => decide (i < j)) a b) env = some (decide (i < j)) := by
  unfold tE e2
  rw [ha, hb]
  rfl
theorem gt_ev {a b : PL.Env → Option PyData} {env : PL.Env} {i j : Int} (ha : a env = some (.int i)) (hb : b env = some (.int j)) : tE (e2 (gB fun i j => decide (j < i)) a b) env = some (decide (j < i)) := by
  unfold tE e2
  rw [ha, hb]
  rfl
theorem if_seq {t : PL.Env → Option Bool} {F F2 F3 : PL.Env → Option Out} {env : PL.Env} {b : Bool} (h : t env = some b) : sSeq (sIf t F F2) F3 env = sSeq (if b then F else F2) F3 env := by
  unfold sSeq sIf
  rw [h, Option.bind_some]
  cases b <;> rfl
theorem next_seq {F3 : PL.Env → Option Out} {env : PL.Env} : sSeq sNext F3 env = F3 env := rfl
theorem tA_ev {a b : PL.Env → Option Bool} {env : PL.Env} {x y : Bool} (ha : a env = some x) (hb : x = true → b env = some y) : tA a b env = some (x && y) := by
  unfold tA
  rw [ha, Option.bind_some]
  cases x with
  | true => exact hb rfl
  | false => rfl
theorem tO_ev {a b : PL.Env → Option Bool} {env : PL.Env} {x y : Bool} (ha : a env = some x) (hb : x = false → b env = some y) : tO a b env = some (x || y) := by
  unfold tO
  rw [ha, Option.bind_some]
  cases x with
  | false => exact hb rfl
  | true => rfl
theorem tup2_ev {a b : PL.Env → Option PyData} {env : PL.Env} {x y : PyData} (ha : a env = some x) (hb : b env = some y) : eTup (aCons a (aCons b aNil)) env = some (.tuple [x, y]) := by
  unfold eTup aCons aNil
  rw [ha, hb]
  rfl
theorem call1_ev {f : List PyData → Option PyData} {a : PL.Env → Option PyData} {env : PL.Env} {x z : PyData} (ha : a env = some x) (h : f [x] = some z) : eA (fun ds => if ds.length = 1 then f ds else none) (aCons a aNil) env = some z := by
  unfold eA aCons aNil
  rw [ha]
  exact h
theorem call2_ev {f : List PyData → Option PyData} {a b : PL.Env → Option PyData} {env : PL.Env} {x y z : PyData} (ha : a env = some x) (hb : b env = some y) (h : f [x, y] = some z) : eA (fun ds => if ds.length = 2 then f ds else none) (aCons a (aCons b aNil)) env = some z := by
  unfold eA aCons aNil
  rw [ha, hb]
  exact h
theorem call3_ev {f : List PyData → Option PyData} {a b c : PL.Env → Option PyData} {env : PL.Env} {x y u z : PyData} (ha : a env = some x) (hb : b env = some y) (hc : c env = some u) (h : f [x, y, u] = some z) : eA (fun ds => if ds.length = 3 then f ds else none) (aCons a (aCons b (aCons c aNil))) env = some z := by
  unfold eA aCons aNil
  rw [ha, hb, hc]
  exact h
theorem cut_to_ev {f g : PL.Env → Option PyData} {env : PL.Env} {z : Str} {k : Nat} (h : f env = some (.str z)) (hk : g env = some (.int (k : Int))) (hl : z.length ≤ 100000) : eSlS f oNone (oSome g) env = some (.str (cutS z none (some (k : Int)))) := by
  unfold eSlS oNone oSome
  rw [h, hk]
  show (if z.length ≤ 100000 then some (PyData.str (cutS z none (some (k : Int)))) else none) = _
  rw [if_pos hl]
theorem cut_from_ev {f g : PL.Env → Option PyData} {env : PL.Env} {z : Str} {k : Nat} (h : f env = some (.str z)) (hk : g env = some (.int (k : Int))) (hl : z.length ≤ 100000) : eSlS f (oSome g) oNone env = some (.str (cutS z (some (k : Int)) none)) := by
  unfold eSlS oNone oSome
  rw [h, hk]
  show (if z.length ≤ 100000 then some (PyData.str (cutS z (some (k : Int)) none)) else none) = _
  rw [if_pos hl]
theorem join_ev {f : PL.Env → Option (List PyData)} {env : PL.Env} {l : List Nat} (h : f env = some (l.map fun c => .str ⟨#[c]⟩)) (hl : l.length ≤ 1000) : ∃ z, e2 gJoin (eC (.str "")) (eL f) env = some (.str z) ∧ cs z = l := by
  have hs : asStrs (l.map fun c => PyData.str ⟨#[c]⟩) = some (l.map fun c => (⟨#[c]⟩ : Str)) := by
    clear h hl
    induction l with
    | nil => rfl
    | cons a r ih =>
      show (asStrs (r.map fun c => PyData.str ⟨#[c]⟩)).map _ = _
      rw [ih]
      rfl
  refine ⟨Txt.join "" (l.map fun c => (⟨#[c]⟩ : Str)), ?_, cs_join l⟩
  unfold e2 eC eL
  rw [h]
  show (asStrs (l.map fun c => PyData.str ⟨#[c]⟩)).bind _ = _
  rw [hs, Option.bind_some, if_pos]
  have h1 : ((l.map fun c => (⟨#[c]⟩ : Str)).map (·.length)).sum = l.length := by
    clear h hl hs
    induction l with
    | nil => rfl
    | cons a r ih =>
      rw [List.map_cons, List.map_cons, List.sum_cons, ih, List.length_cons]
      show 1 + _ = _
      omega
  rw [h1, show (Str.ofString "").length = 0 from by decide +kernel, Nat.mul_zero]
  omega
theorem fgo_nx {G : PyData → PL.Env → Option PL.Env} {F : PL.Env → Option Out} {x : PyData} {xs : List PyData} {env e1 e2 : PL.Env} (h1 : G x env = some e1) (h2 : F e1 = some (.nx e2)) : fGo G F (x :: xs) env = fGo G F xs e2 := by
  show (G x env).bind _ = _
  rw [h1, Option.bind_some, h2]
  rfl
theorem if_val {t : PL.Env → Option Bool} {F F2 : PL.Env → Option Out} {env : PL.Env} {b : Bool} (h : t env = some b) : sIf t F F2 env = if b then F env else F2 env := by
  show (t env).bind _ = _
  rw [h]
  rfl
theorem if_yes {t : PL.Env → Option Bool} {F F2 : PL.Env → Option Out} {env : PL.Env} (h : t env = some true) : sIf t F F2 env = F env := if_val h
theorem if_no {t : PL.Env → Option Bool} {F F2 : PL.Env → Option Out} {env : PL.Env} (h : t env = some false) : sIf t F F2 env = F2 env := if_val h
theorem seq_nx {F F2 : PL.Env → Option Out} {env e : PL.Env} (h : F env = some (.nx e)) : sSeq F F2 env = F2 e := by
  show (F env).bind _ = _
  rw [h]
  rfl
theorem seq_rt {F F2 : PL.Env → Option Out} {env : PL.Env} {d : PyData} (h : F env = some (.rt d)) : sSeq F F2 env = some (.rt d) := by
  show (F env).bind _ = _
  rw [h]
  rfl
theorem app_nx {i : Nat} {f : PL.Env → Option PyData} {env : PL.Env} {ds : List PyData} {d : PyData} (h1 : env[i]? = some (.own ds)) (h2 : f env = some d) (h3 : ds.length < 100000) : sApp i f env = some (.nx (env.set i (.own (ds ++ [d])))) := by
  unfold sApp
  rw [h1]
  show (f env).bind _ = _
  rw [h2, Option.bind_some, if_pos h3]
theorem asg_nx {f : PL.Env → Option PyData} {i : Nat} {env : PL.Env} {d : PyData} (h : f env = some d) : sAsg f (tgN i) env = some (.nx (env.set i (.sh d))) := by
  unfold sAsg
  rw [h]
  rfl
end PL
/-! Dicts of texts as data: read only. -/
namespace PL
open PySem L2 PySem.Spec PyProof.Rows
/-- the value at a text -/
def lookP : List (PyData × PyData) → Str → Option PyData
  | [], _ => none
  | q :: r, x => match q.1 with
    | .str k => if k = x then some q.2 else lookP r x
    | _ => lookP r x
def gDg : PyData → PyData → Option PyData
  | .dict kvs, .str x => lookP kvs x
  | _, _ => none
def isKS : PyData × PyData → Bool
  | (.str _, _) => true
  | _ => false
def gDin (neg : Bool) : PyData → PyData → Option PyData
  | .str x, .dict kvs => if kvs.all isKS then some (.bool (if neg then !(lookP kvs x).isSome else (lookP kvs x).isSome)) else none
  | _, _ => none
section
variable {K : PySem.W.Frag} {H : Hp}
theorem look_rp {x : Str} : ∀ {ks : List Str} {vs : List V} {ds : List PyData}, RpAll K H vs ds → ks.length = vs.length →
    (∀ d, lookP (kvP ks ds) x = some d → ∃ v, valV (kvV ks vs) (Sum.inr x) = some v ∧ Rp K H v d) ∧ (lookP (kvP ks ds) x = none → valV (kvV ks vs) (Sum.inr x) = none)
  | [], [], ds, r, _ => by
    cases r
    exact ⟨(fun d h => by cases h), fun _ => rfl⟩
  | k :: ks, v :: vs, ds, r, l => by
    cases r with
    | cons r t =>
      rename_i d ds
      have ih := look_rp (x := x) (ks := ks) t (by simpa using l)
      by_cases e : k = x
      · have h1 : valV (kvV (k :: ks) (v :: vs)) (Sum.inr x) = some v := valV_pos (by show Sum.inr k = Sum.inr x; rw [e])
        have h2 : lookP (kvP (k :: ks) (d :: ds)) x = some d := if_pos e
        refine ⟨fun d2 h => ?_, fun h => ?_⟩
        · rw [h2] at h
          cases h
          exact ⟨v, h1, r⟩
        · rw [h2] at h
          cases h
      · have h1 : valV (kvV (k :: ks) (v :: vs)) (Sum.inr x) = valV (kvV ks vs) (Sum.inr x) := valV_neg (fun z => e (Sum.inr.inj z))
        have h2 : lookP (kvP (k :: ks) (d :: ds)) x = lookP (kvP ks ds) x := if_neg e
        rw [h1, h2]
        exact ih
variable {O : Hid} {v : V}
theorem rp_dic {kvs : List (PyData × PyData)} (h : Rp K (vis O H) v (.dict kvs)) (hk : kvs.all isKS = true ∨ ∃ x d, lookP kvs x = some d) : ∃ a ks vs ds, v = .ref a ∧ H a = some (.dK (kvV ks vs)) ∧ ks.length = vs.length ∧ RpAll K (vis O H) vs ds ∧ kvs = kvP ks ds := by
  generalize hd : PyData.dict kvs = d at h
  cases h with
  | scr h =>
    injection hd with hd
    rw [hd] at hk
    rcases hk with hk | ⟨x, d, hk⟩ <;> cases hk
  | dic h l r =>
    injection hd with hd
    exact ⟨_, _, _, _, rfl, vis_le _ _ h, l, r, hd⟩
  | _ => cases hd
variable {te tk : TE} {f g : PL.Env → Option PyData}
theorem den_dget (h : DenP K te f) (hk : Den K tk g) : DenP K (tDGet te tk) (e2 gDg f g) := by
  intro base O0 O σ H env d S e Q q
  unfold e2 at e
  cases k1 : f env with
  | none => simp [k1] at e
  | some x =>
    cases k2 : g env with
    | none => simp [k1, k2] at e
    | some y =>
      simp only [k1, k2, Option.bind_some] at e
      unfold gDg at e
      split at e
      · rename_i kvs z
        refine h base O0 O σ H env _ S k1 _ fun v H1 x1 o1 => hk base O0 O σ H1 env _ (S.mono x1) k2 _ fun u H2 x2 o2 => ?_
        obtain ⟨a, ks, vs, ds, rfl, ha, hl, r, rfl⟩ := rp_dic (o1.mono (vis_mono x2)) (.inr ⟨_, _, e⟩)
        obtain ⟨w, hw, rw_⟩ := (look_rp r hl).1 _ e
        rw [o2.str]
        refine ⟨a, w, rfl, ?_, q w H2 (x1.trans x2) rw_⟩
        have := DGet.k (k := Sum.inr z) ha
        rw [hw] at this
        exact this
      · cases e
theorem den_din (hk : Den K tk g) (h : DenP K te f) : DenP K (tDIn tk te) (e2 (gDin false) g f) := by
  intro base O0 O σ H env d S e Q q
  unfold e2 at e
  cases k1 : g env with
  | none => simp [k1] at e
  | some x =>
    cases k2 : f env with
    | none => simp [k1, k2] at e
    | some y =>
      simp only [k1, k2, Option.bind_some] at e
      unfold gDin at e
      split at e
      · rename_i z kvs
        split at e
        case isFalse => cases e
        rename_i hs
        cases e
        refine hk base O0 O σ H env _ S k1 _ fun u H1 x1 o1 => h base O0 O σ H1 env _ (S.mono x1) k2 _ fun v H2 x2 o2 => ?_
        obtain ⟨a, ks, vs, ds, rfl, ha, hl, r, rfl⟩ := rp_dic o2 (.inl hs)
        rw [o1.str]
        have hw := look_rp (x := z) r hl
        refine ⟨a, _, rfl, DGet.k (k := Sum.inr z) ha, ?_⟩
        have : (valV (kvV ks vs) (Sum.inr z)).isSome = (lookP (kvP ks ds) z).isSome := by
          cases k : lookP (kvP ks ds) z with
          | none => rw [hw.2 k]; rfl
          | some d =>
            obtain ⟨w, e1, _⟩ := hw.1 d k
            rw [e1]
            rfl
        rw [this]
        exact q _ H2 (x1.trans x2) (.bl _)
      · cases e
theorem den_dnin (hk : Den K tk g) (h : DenP K te f) : DenP K (tDNotIn tk te) (e2 (gDin true) g f) := by
  intro base O0 O σ H env d S e Q q
  unfold e2 at e
  cases k1 : g env with
  | none => simp [k1] at e
  | some x =>
    cases k2 : f env with
    | none => simp [k1, k2] at e
    | some y =>
      simp only [k1, k2, Option.bind_some] at e
      unfold gDin at e
      split at e
      · rename_i z kvs
        split at e
        case isFalse => cases e
        rename_i hs
        cases e
        refine hk base O0 O σ H env _ S k1 _ fun u H1 x1 o1 => h base O0 O σ H1 env _ (S.mono x1) k2 _ fun v H2 x2 o2 => ?_
        obtain ⟨a, ks, vs, ds, rfl, ha, hl, r, rfl⟩ := rp_dic o2 (.inl hs)
        rw [o1.str]
        have hw := look_rp (x := z) r hl
        refine ⟨a, _, rfl, DGet.k (k := Sum.inr z) ha, ?_⟩
        have : (valV (kvV ks vs) (Sum.inr z)).isSome = (lookP (kvP ks ds) z).isSome := by
          cases k : lookP (kvP ks ds) z with
          | none => rw [hw.2 k]; rfl
          | some d =>
            obtain ⟨w, e1, _⟩ := hw.1 d k
            rw [e1]
            rfl
        rw [this]
        exact q _ H2 (x1.trans x2) (.bl _)
      · cases e
end
section
variable {K : PySem.W.Frag} {X : Cx} {a b : Expr} {ta tb : TE} {fa fb : PL.Env → Option PyData} {pos : Pos}
theorem dgx (hu : X.A.units + 1 < cLine) (ha : EP K X a ta fa) (hb : EO K X b tb fb) (hs : NoSl b := by exact fun _ _ => rfl) : EP K X (.Subscript a b pos) (tDGet ta tb) (e2 gDg fa fb) := ⟨pe_dget hu ha.pe hb.pe hs, den_dget ha.de hb.de⟩
theorem tDin_ (hu : X.A.units + 1 < cLine) (ha : EO K X a ta fa) (hb : EP K X b tb fb) (hm : behindInMarks .In b = false := by rfl) : ET K X (.Compare a [.In] [b] pos) (tTest (tDIn ta tb)) (tE (e2 (gDin false) fa fb)) := ⟨pt_cmp (h1 := hm) (pc_din hu ha.pe hb.pe), den_test (den_din ha.de hb.de).o⟩
theorem tDnin_ (hu : X.A.units + 1 < cLine) (ha : EO K X a ta fa) (hb : EP K X b tb fb) (hm : behindInMarks .NotIn b = false := by rfl) : ET K X (.Compare a [.NotIn] [b] pos) (tTest (tDNotIn ta tb)) (tE (e2 (gDin true) fa fb)) := ⟨pt_cmp (h1 := hm) (pc_dnotin hu ha.pe hb.pe), den_test (den_dnin ha.de hb.de).o⟩
end
/-! ### displays -/
theorem merge_new : ∀ (more acc : List (Key × V)), ((acc ++ more).map (·.1)).Nodup → more.foldl (fun acc kv => putK acc kv.1 kv.2) acc = acc ++ more
  | [], acc, _ => by rw [List.append_nil]; rfl
  | q :: more, acc, h => by
    have h1 : ¬ (acc.any fun kv => decide (kv.1 = q.1)) = true := fun z => by
      obtain ⟨r, m, e⟩ := List.any_eq_true.mp z
      rw [List.map_append, List.nodup_append] at h
      exact h.2.2 _ (List.mem_map_of_mem m) _ (List.mem_map_of_mem (List.mem_cons_self ..)) (of_decide_eq_true e)
    rw [List.foldl_cons]
    have h2 : putK acc q.1 q.2 = acc ++ [q] := by
      unfold putK
      rw [if_neg h1]
    rw [h2, merge_new more (acc ++ [q]) (by rw [List.append_assoc]; exact h), List.append_assoc]
    rfl
theorem kvV_keys : ∀ {ks : List Str} {vs : List V}, ks.length = vs.length → (kvV ks vs).map (·.1) = ks.map fun k => (Sum.inr k : Key)
  | [], [], _ => rfl
  | k :: ks, v :: vs, l => by
    have := kvV_keys (ks := ks) (vs := vs) (by simpa using l)
    show (Sum.inr k : Key) :: (kvV ks vs).map (·.1) = _
    rw [this]
    rfl
theorem keys_nd {ks : List Str} (h : ks.Nodup) : (ks.map fun k => (Sum.inr k : Key)).Nodup := by
  induction ks with
  | nil => exact List.nodup_nil
  | cons k ks ih =>
    rw [List.nodup_cons] at h
    rw [List.map_cons, List.nodup_cons]
    refine ⟨fun m => ?_, ih h.2⟩
    obtain ⟨z, mz, e⟩ := List.mem_map.mp m
    rw [← Sum.inr.inj e] at h
    exact h.1 mz
def DenPs (K : PySem.W.Frag) (l : List (TE × TE)) (ks : List Str) (fr : PL.Env → Option (List PyData)) : Prop := ∀ base O0 O σ H env ds, Sat K base O0 O σ H env → fr env = some ds → ∀ Q : List (V × V) → Hp → Prop, (∀ vs H', Ex H H' → ks.length = vs.length → RpAll K (vis O H') vs ds → Q ((kvV ks vs).map fun kv => (kV kv.1, kv.2)) H') → tPairs l σ H Q
def eDict (ks : List Str) (fr : PL.Env → Option (List PyData)) : PL.Env → Option PyData := fun env => (fr env).map fun ds => .dict (kvP ks ds)
section
variable {K : PySem.W.Frag} {l : List (TE × TE)} {ks : List Str} {fr : PL.Env → Option (List PyData)} {tv : TE} {f : PL.Env → Option PyData}
theorem den_pnil : DenPs K [] [] aNil := by
  intro base O0 O σ H env ds S e Q q
  cases e
  exact q [] H (Ex.refl H) rfl .nil
theorem den_pcons {k : Str} (h : DenP K tv f) (hr : DenPs K l ks fr) : DenPs K ((tC (.str k), tv) :: l) (k :: ks) (aCons f fr) := by
  intro base O0 O σ H env ds S e Q q
  unfold aCons at e
  cases k1 : f env with
  | none => simp [k1] at e
  | some x =>
    cases k2 : fr env with
    | none => simp [k1, k2] at e
    | some xs =>
      simp only [k1, k2, Option.bind_some, Option.map_some] at e
      cases e
      show tv σ H _
      refine h base O0 O σ H env _ S k1 _ fun v H1 x1 r1 => ?_
      refine hr base O0 O σ H1 env _ (S.mono x1) k2 _ fun vs H2 x2 hl r2 => ?_
      exact q (v :: vs) H2 (x1.trans x2) (by rw [List.length_cons, List.length_cons, hl]) (.cons (r1.mono (vis_mono x2)) r2)
theorem den_dict (hn : ks.Nodup) (h15 : ks.length ≤ 15) (h : DenPs K l ks fr) : DenP K (tDisp l) (eDict ks fr) := by
  intro base O0 O σ H env d S e Q q
  unfold eDict at e
  cases k1 : fr env with
  | none => simp [k1] at e
  | some ds =>
    simp only [k1, Option.map_some] at e
    cases e
    intro p hp
    have S1 := S.hide (D := p) (H' := upd H p (.dK [])) hp (Ex.new hp) (by rw [upd_same]; exact fun z => nomatch z)
    refine h base O0 (hid O p) σ _ env ds S1 k1 _ fun vs H2 x2 hl r => ?_
    have h2 : H2 p = some (.dK []) := x2 p _ upd_same
    refine ⟨h2, kvV ks vs, rfl, ?_, ?_⟩
    · unfold kvV
      rw [List.length_map, List.length_zip]
      omega
    · have hm : mergeK [] (kvV ks vs) = kvV ks vs := by
        unfold mergeK
        rw [merge_new _ [] (by rw [List.nil_append, kvV_keys hl]; exact keys_nd hn)]
        rfl
      rw [hm]
      have op : O p = false := by
        cases z : O p with
        | false => rfl
        | true => exact absurd hp (S.all p z)
      have e1 : Ex H (upd H2 p (.dK (kvV ks vs))) := fun a o ha => by
        have ne : a ≠ p := ne_of_none ha hp
        rw [upd_ne ne]
        exact x2 a o (by rw [upd_ne ne]; exact ha)
      refine q _ _ e1 (.dic (vis_at op upd_same) hl (r.mono fun a o ha => ?_))
      have hid1 : hid O p a = false := by
        cases z : hid O p a with
        | false => rfl
        | true =>
          unfold vis at ha
          rw [if_pos z] at ha
          cases ha
      have ha2 := vis_le _ _ ha
      unfold hid at hid1
      rw [Bool.or_eq_false_iff] at hid1
      exact vis_at hid1.1 (by rw [upd_ne (of_decide_eq_false hid1.2)]; exact ha2)
end
section
variable {K : PySem.W.Frag} {X : Cx} {l : List (TE × TE)} {ks : List Str} {fr : PL.Env → Option (List PyData)} {tv : TE} {f : PL.Env → Option PyData} {keys : List (Option Expr)} {vals : List Expr} {e : Expr} {pos p2 : Pos}
structure EPs (K : PySem.W.Frag) (X : Cx) (pos : Pos) (keys : List (Option Expr)) (vals : List Expr) (l : List (TE × TE)) (ks : List Str) (fr : PL.Env → Option (List PyData)) : Prop where
  pe : PPs X pos keys vals l
  de : DenPs K l ks fr
theorem kN : EPs K X pos [] [] [] [] aNil := ⟨pps_nil, den_pnil⟩
theorem kC {k : Str} {j} (h : EP K X e tv f) (hr : EPs K X pos keys vals l ks fr) : EPs K X pos (some (.Constant (.str k) j p2) :: keys) (e :: vals) ((tC (.str k), tv) :: l) (k :: ks) (aCons f fr) := ⟨pps_cons pe_str h.pe hr.pe, den_pcons h.de hr.de⟩
theorem dDict (h : EPs K X pos keys vals l ks fr) (hn : ks.Nodup := by decide +kernel) (h15 : ks.length ≤ 15 := by decide) (hall : keys.all (·.isSome) = true := by rfl) (hl : keys.length = vals.length := by rfl) (h0 : keys ≠ [] := by exact fun z => nomatch z) (hk : keys.length ≤ 15 := by decide) : EP K X (.Dict keys vals pos) (tDisp l) (eDict ks fr) :=
  ⟨pe_disp h.pe hall hl h0 hk, den_dict hn h15 h.de⟩
end
end PL
/-! The law's own state: a dict of lists, hidden. -/
namespace PL
open PySem L2 PySem.Spec PyProof.Rows
def encQ (q : Str × Int) : PyData := .tuple [.str q.1, .int q.2]
def encN (q : Int × Int) : PyData := .list [.int q.1, .int q.2]
def lsKs : List Str := ["open", "held", "worth", "told", "given", "many"]
def heldD (l : List (Str × Nat)) : PyData := .dict (kvP (l.map (·.1)) (l.map fun q => .int (q.2 : Int)))
def lsPs (S : LS) : List PyData := [.list (S.opn.map encQ), heldD S.held, .list (S.worth.map encN), .list (S.told.map PyData.int), .list (S.given.map PyData.int), .int S.many]
def lsD (S : LS) : PyData := .dict (kvP lsKs (lsPs S))
section
variable {K : PySem.W.Frag} {H H' B B' : Hp} {p a1 a2 a3 a4 a5 : Addr} {was : List Addr} {os : List V} {S : LS} {O : Hid}
theorem PairsAt.sub : ∀ {as : List Addr} {vs : List (Int × Int)}, PairsAt H as vs → (∀ a ∈ as, ∀ o, H a = some o → H' a = some o) → PairsAt H' as vs
  | _, _, .nil, _ => .nil
  | _, _, .cons h t, m => .cons (m _ (List.mem_cons_self ..) _ h) (t.sub fun a x => m a (List.mem_cons_of_mem _ x))
theorem PairsAt.live : ∀ {as : List Addr} {vs : List (Int × Int)} {a : Addr}, PairsAt H as vs → a ∈ as → ∃ o, H a = some o
  | _, _, _, .nil, m => nomatch m
  | _, _, _, .cons h t, m => (List.mem_cons.mp m).elim (fun e => ⟨_, e ▸ h⟩) fun m => t.live m
theorem LsAt.sub (h : LsAt K H B p a1 a2 a3 a4 a5 was os S) (m : ∀ a ∈ lsFp p a1 a2 a3 a4 a5 was, ∀ o, H a = some o → H' a = some o) : LsAt K H' B p a1 a2 a3 a4 a5 was os S := by
  unfold lsFp at m
  exact ⟨m p (by simp) _ h.hp, m a1 (by simp) _ h.h1, h.hos, m a2 (by simp) _ h.h2, m a3 (by simp) _ h.h3, h.hw.sub fun a x => m a (by simp [x]), m a4 (by simp) _ h.h4, m a5 (by simp) _ h.h5, h.ha⟩
theorem LsAt.live (h : LsAt K H B p a1 a2 a3 a4 a5 was os S) : ∀ a ∈ lsFp p a1 a2 a3 a4 a5 was, H a ≠ none := fun a m => by
  have : ∃ o, H a = some o := by
    unfold lsFp at m
    simp only [List.mem_cons] at m
    rcases m with rfl | rfl | rfl | rfl | rfl | rfl | m
    · exact ⟨_, h.hp⟩
    · exact ⟨_, h.h1⟩
    · exact ⟨_, h.h2⟩
    · exact ⟨_, h.h3⟩
    · exact ⟨_, h.h4⟩
    · exact ⟨_, h.h5⟩
    · exact h.hw.live m
  obtain ⟨o, ho⟩ := this
  rw [ho]
  exact fun z => nomatch z
theorem LsAt.seen (e : Ex B B') (h : LsAt K H B p a1 a2 a3 a4 a5 was os S) : LsAt K H B' p a1 a2 a3 a4 a5 was os S := ⟨h.hp, h.h1, h.hos.mono e, h.h2, h.h3, h.hw, h.h4, h.h5, h.ha⟩
theorem obr_ls (h : LsAt K H B p a1 a2 a3 a4 a5 was os S) (nd : (lsFp p a1 a2 a3 a4 a5 was).Nodup) : ObR K (.ref p) (lsFp p a1 a2 a3 a4 a5 was) H B (.ls S) :=
  ⟨nd, h.live, p, a1, a2, a3, a4, a5, was, os, rfl, rfl, h.sub fun a m o ho => rst_at m ho⟩
theorem ls_obr {v : V} {fp : List Addr} (r : ObR K v fp H B (.ls S)) : ∃ p a1 a2 a3 a4 a5 was os, v = .ref p ∧ fp = lsFp p a1 a2 a3 a4 a5 was ∧ LsAt K H B p a1 a2 a3 a4 a5 was os S ∧ (lsFp p a1 a2 a3 a4 a5 was).Nodup := by
  obtain ⟨nd, _, p, a1, a2, a3, a4, a5, was, os, rfl, rfl, h⟩ := r
  exact ⟨p, a1, a2, a3, a4, a5, was, os, rfl, rfl, h.sub fun a m o ho => (rst_some ho).2, nd⟩
/-! ### the state as data -/
theorem unl_dk {a : Addr} {kvs : List (Key × V)} (h : H a = some (.dK kvs)) : unl O H a = false := by
  unfold unl
  rw [h]
  simp
theorem unl_l {a : Addr} {xs : List V} (h : H a = some (.lst xs)) : unl O H a = false := by
  unfold unl
  rw [h]
  simp
theorem kvV_map {α : Type} (f : α → Str) (g : α → V) : ∀ l : List α, kvV (l.map f) (l.map g) = l.map fun q => (Sum.inr (f q), g q)
  | [] => rfl
  | q :: l => by
    show (Sum.inr (f q), g q) :: kvV (l.map f) (l.map g) = _
    rw [kvV_map f g l]
    rfl
theorem rp_nums {α : Type} (g : α → Int) : ∀ l : List α, RpAll K H (l.map fun q => V.int (g q)) (l.map fun q => .int (g q))
  | [] => .nil
  | q :: l => .cons (.int _) (rp_nums g l)
theorem rp_pairs (O : Hid) : ∀ {as : List Addr} {vs : List (Int × Int)}, PairsAt H as vs → RpAll K (vis (unl O H) H) (as.map V.ref) (vs.map encN)
  | _, _, .nil => .nil
  | _, _, .cons h t => .cons (.lst (vis_at (unl_l h) h) (.cons (.int _) (.cons (.int _) .nil))) (rp_pairs O t)
theorem ls_rp (h : LsAt K H (vis O H) p a1 a2 a3 a4 a5 was os S) : Rp K (vis (unl O H) H) (.ref p) (lsD S) := by
  refine .dic (ks := lsKs) (xs := [.ref a1, .ref a2, .ref a3, .ref a4, .ref a5, .int S.many]) (vis_at (unl_dk h.hp) h.hp) rfl ?_
  refine .cons (.lst (vis_at (unl_l h.h1) h.h1) (h.hos.mono unl_le)) (.cons ?_ (.cons (.lst (vis_at (unl_l h.h3) h.h3) (rp_pairs O h.hw)) (.cons (.lst (vis_at (unl_l h.h4) h.h4) (rp_nums id _)) (.cons (.lst (vis_at (unl_l h.h5) h.h5) (rp_nums id _)) (.cons (.int _) .nil)))))
  refine .dic (ks := S.held.map (·.1)) (xs := S.held.map fun q => V.int (q.2 : Int)) ?_ (by rw [List.length_map, List.length_map]) (rp_nums (fun q : Str × Nat => (q.2 : Int)) _)
  rw [kvV_map]
  exact vis_at (unl_dk h.h2) h.h2
end
/-! ### looked at in a frame -/
def eLs (i : Nat) : PL.Env → Option PyData := fun env => match env[i]? with
  | some (.ob (.ls S)) => some (lsD S)
  | _ => none
def eOpn (i : Nat) : PL.Env → Option PyData := fun env => match env[i]? with
  | some (.ob (.ls S)) => some (.list (S.opn.map encQ))
  | _ => none
def eToldL (i : Nat) : PL.Env → Option PyData := fun env => match env[i]? with
  | some (.ob (.ls S)) => some (.list (S.told.map PyData.int))
  | _ => none
def eGivenL (i : Nat) : PL.Env → Option PyData := fun env => match env[i]? with
  | some (.ob (.ls S)) => some (.list (S.given.map PyData.int))
  | _ => none
def eMany (i : Nat) : PL.Env → Option PyData := fun env => match env[i]? with
  | some (.ob (.ls S)) => some (.int S.many)
  | _ => none
section
variable {K : PySem.W.Frag} {i : Nat}
theorem den_ls : Den K (tVar i) (eLs i) := by
  intro base O0 O σ H env d S e Q q
  unfold eLs at e
  split at e
  · rename_i S0 hi
    cases e
    obtain ⟨v, fp, hx, _, r0, _⟩ := S.mutOb hi
    obtain ⟨p, a1, a2, a3, a4, a5, was, os, rfl, rfl, h, nd⟩ := ls_obr r0
    exact ⟨_, hx, q _ H (PL.Ex.refl H) (.inr (.inr ⟨_, rfl, ls_rp h⟩))⟩
  · cases e
theorem get_open {p a1 a2 a3 a4 a5 : Addr} {n : Int} {H : Hp} (h : H p = some (.dK [(kS "open", .ref a1), (kS "held", .ref a2), (kS "worth", .ref a3), (kS "told", .ref a4), (kS "given", .ref a5), (kS "many", .int n)])) :
    DGet H p (.str "open") (some (.ref a1)) ∧ DGet H p (.str "held") (some (.ref a2)) ∧ DGet H p (.str "worth") (some (.ref a3)) ∧ DGet H p (.str "told") (some (.ref a4)) ∧ DGet H p (.str "given") (some (.ref a5)) ∧ DGet H p (.str "many") (some (.int n)) := by
  have ne : ∀ x y : Str, decide (x = y) = false → kS x ≠ kS y := fun x y h e => of_decide_eq_false h (kS_inj.mp e)
  have g : ∀ k : Str, DGet H p (.str k) (valV [(kS "open", V.ref a1), (kS "held", .ref a2), (kS "worth", .ref a3), (kS "told", .ref a4), (kS "given", .ref a5), (kS "many", .int n)] (kS k)) := fun k => DGet.k (k := kS k) h
  refine ⟨?_, ?_, ?_, ?_, ?_, ?_⟩
  · have := g "open"
    rwa [valV_pos rfl] at this
  · have := g "held"
    rwa [valV_neg (ne _ _ (by decide +kernel)), valV_pos rfl] at this
  · have := g "worth"
    rwa [valV_neg (ne _ _ (by decide +kernel)), valV_neg (ne _ _ (by decide +kernel)), valV_pos rfl] at this
  · have := g "told"
    rwa [valV_neg (ne _ _ (by decide +kernel)), valV_neg (ne _ _ (by decide +kernel)), valV_neg (ne _ _ (by decide +kernel)), valV_pos rfl] at this
  · have := g "given"
    rwa [valV_neg (ne _ _ (by decide +kernel)), valV_neg (ne _ _ (by decide +kernel)), valV_neg (ne _ _ (by decide +kernel)), valV_neg (ne _ _ (by decide +kernel)), valV_pos rfl] at this
  · have := g "many"
    rwa [valV_neg (ne _ _ (by decide +kernel)), valV_neg (ne _ _ (by decide +kernel)), valV_neg (ne _ _ (by decide +kernel)), valV_neg (ne _ _ (by decide +kernel)), valV_neg (ne _ _ (by decide +kernel)), valV_pos rfl] at this
theorem den_opn : Den K (tDGet (tVar i) (tC (.str "open"))) (eOpn i) := by
  intro base O0 O σ H env d S e Q q
  unfold eOpn at e
  split at e
  · rename_i S0 hi
    cases e
    obtain ⟨v, fp, hx, _, r0, _⟩ := S.mutOb hi
    obtain ⟨p, a1, a2, a3, a4, a5, was, os, rfl, rfl, h, nd⟩ := ls_obr r0
    exact ⟨_, hx, p, _, rfl, (get_open h.hp).1, q _ H (PL.Ex.refl H) (.inr (.inl ⟨a1, os, _, rfl, h.h1, h.hos, rfl⟩))⟩
  · cases e
theorem den_toldl : Den K (tDGet (tVar i) (tC (.str "told"))) (eToldL i) := by
  intro base O0 O σ H env d S e Q q
  unfold eToldL at e
  split at e
  · rename_i S0 hi
    cases e
    obtain ⟨v, fp, hx, _, r0, _⟩ := S.mutOb hi
    obtain ⟨p, a1, a2, a3, a4, a5, was, os, rfl, rfl, h, nd⟩ := ls_obr r0
    exact ⟨_, hx, p, _, rfl, (get_open h.hp).2.2.2.1, q _ H (PL.Ex.refl H) (.inr (.inl ⟨a4, _, _, rfl, h.h4, rp_nums id _, rfl⟩))⟩
  · cases e
theorem den_givenl : Den K (tDGet (tVar i) (tC (.str "given"))) (eGivenL i) := by
  intro base O0 O σ H env d S e Q q
  unfold eGivenL at e
  split at e
  · rename_i S0 hi
    cases e
    obtain ⟨v, fp, hx, _, r0, _⟩ := S.mutOb hi
    obtain ⟨p, a1, a2, a3, a4, a5, was, os, rfl, rfl, h, nd⟩ := ls_obr r0
    exact ⟨_, hx, p, _, rfl, (get_open h.hp).2.2.2.2.1, q _ H (PL.Ex.refl H) (.inr (.inl ⟨a5, _, _, rfl, h.h5, rp_nums id _, rfl⟩))⟩
  · cases e
theorem den_many : DenP K (tDGet (tVar i) (tC (.str "many"))) (eMany i) := by
  intro base O0 O σ H env d S e Q q
  unfold eMany at e
  split at e
  · rename_i S0 hi
    cases e
    obtain ⟨v, fp, hx, _, r0, _⟩ := S.mutOb hi
    obtain ⟨p, a1, a2, a3, a4, a5, was, os, rfl, rfl, h, nd⟩ := ls_obr r0
    exact ⟨_, hx, p, _, rfl, (get_open h.hp).2.2.2.2.2, q _ H (PL.Ex.refl H) (.int _)⟩
  · cases e
end
end PL
/-! The law's own state, changed. -/
namespace PL
open PySem L2 PySem.Spec PyProof.Rows
/-- that its cells are apart -/
structure LsApart (p a1 a2 a3 a4 a5 : Addr) (was : List Addr) : Prop where
  h : (p ≠ a1 ∧ p ≠ a2 ∧ p ≠ a3 ∧ p ≠ a4 ∧ p ≠ a5) ∧ (a1 ≠ a2 ∧ a1 ≠ a3 ∧ a1 ≠ a4 ∧ a1 ≠ a5) ∧ (a2 ≠ a3 ∧ a2 ≠ a4 ∧ a2 ≠ a5) ∧ (a3 ≠ a4 ∧ a3 ≠ a5) ∧ a4 ≠ a5
  w : ∀ a ∈ was, a ≠ p ∧ a ≠ a1 ∧ a ≠ a2 ∧ a ≠ a3 ∧ a ≠ a4 ∧ a ≠ a5
  nd : was.Nodup
theorem ls_apart {p a1 a2 a3 a4 a5 : Addr} {was : List Addr} (nd : (lsFp p a1 a2 a3 a4 a5 was).Nodup) : LsApart p a1 a2 a3 a4 a5 was := by
  unfold lsFp at nd
  simp only [List.nodup_cons, List.mem_cons, not_or] at nd
  obtain ⟨⟨p1, p2, p3, p4, p5, p6⟩, ⟨q1, q2, q3, q4, q5⟩, ⟨r1, r2, r3, r4⟩, ⟨s1, s2, s3⟩, ⟨t1, t2⟩, u1, nd⟩ := nd
  refine ⟨⟨⟨p1, p2, p3, p4, p5⟩, ⟨q1, q2, q3, q4⟩, ⟨r1, r2, r3⟩, ⟨s1, s2⟩, t1⟩, fun a m => ?_, nd⟩
  refine ⟨?_, ?_, ?_, ?_, ?_, ?_⟩ <;> (intro e; subst e; contradiction)
section
variable {K : PySem.W.Frag} {H H' B B' : Hp} {p a1 a2 a3 a4 a5 : Addr} {was : List Addr} {os : List V} {S : LS} {O : Hid}
theorem PairsAt.wr {c : Addr} {o : HO} : ∀ {as : List Addr} {vs : List (Int × Int)}, PairsAt H as vs → (∀ a ∈ as, a ≠ c) → PairsAt (upd H c o) as vs
  | _, _, .nil, _ => .nil
  | _, _, .cons h t, n => .cons (by rw [upd_ne (n _ (List.mem_cons_self ..))]; exact h) (t.wr fun a m => n a (List.mem_cons_of_mem _ m))
theorem LsAt.wP (h : LsAt K H B p a1 a2 a3 a4 a5 was os S) (A : LsApart p a1 a2 a3 a4 a5 was) (n : Int) : LsAt K (upd H p (.dK [(kS "open", .ref a1), (kS "held", .ref a2), (kS "worth", .ref a3), (kS "told", .ref a4), (kS "given", .ref a5), (kS "many", .int n)])) B p a1 a2 a3 a4 a5 was os { S with many := n } := by
  obtain ⟨⟨p1, p2, p3, p4, p5⟩, _⟩ := A.h
  exact ⟨upd_same, by rw [upd_ne p1.symm]; exact h.h1, h.hos, by rw [upd_ne p2.symm]; exact h.h2, by rw [upd_ne p3.symm]; exact h.h3, h.hw.wr fun a m => (A.w a m).1, by rw [upd_ne p4.symm]; exact h.h4, by rw [upd_ne p5.symm]; exact h.h5, h.ha⟩
theorem LsAt.w1 (h : LsAt K H B p a1 a2 a3 a4 a5 was os S) (A : LsApart p a1 a2 a3 a4 a5 was) {os' : List V} {l : List (Str × Int)} (r : RpAll K B os' (l.map fun q => .tuple [.str q.1, .int q.2])) : LsAt K (upd H a1 (.lst os')) B p a1 a2 a3 a4 a5 was os' { S with opn := l } := by
  obtain ⟨⟨p1, _⟩, ⟨q1, q2, q3, q4⟩, _⟩ := A.h
  exact ⟨by rw [upd_ne p1]; exact h.hp, upd_same, r, by rw [upd_ne q1.symm]; exact h.h2, by rw [upd_ne q2.symm]; exact h.h3, h.hw.wr fun a m => (A.w a m).2.1, by rw [upd_ne q3.symm]; exact h.h4, by rw [upd_ne q4.symm]; exact h.h5, h.ha⟩
theorem LsAt.w2 (h : LsAt K H B p a1 a2 a3 a4 a5 was os S) (A : LsApart p a1 a2 a3 a4 a5 was) (l : List (Str × Nat)) : LsAt K (upd H a2 (.dK (l.map fun q => (kS q.1, V.int (q.2 : Int))))) B p a1 a2 a3 a4 a5 was os { S with held := l } := by
  obtain ⟨⟨_, p2, _⟩, ⟨q1, _⟩, ⟨r1, r2, r3⟩, _⟩ := A.h
  exact ⟨by rw [upd_ne p2]; exact h.hp, by rw [upd_ne q1]; exact h.h1, h.hos, upd_same, by rw [upd_ne r1.symm]; exact h.h3, h.hw.wr fun a m => (A.w a m).2.2.1, by rw [upd_ne r2.symm]; exact h.h4, by rw [upd_ne r3.symm]; exact h.h5, h.ha⟩
theorem LsAt.w4 (h : LsAt K H B p a1 a2 a3 a4 a5 was os S) (A : LsApart p a1 a2 a3 a4 a5 was) (l : List Int) : LsAt K (upd H a4 (.lst (l.map V.int))) B p a1 a2 a3 a4 a5 was os { S with told := l } := by
  obtain ⟨⟨_, _, _, p4, _⟩, ⟨_, _, q3, _⟩, ⟨_, r2, _⟩, ⟨s1, _⟩, t1⟩ := A.h
  exact ⟨by rw [upd_ne p4]; exact h.hp, by rw [upd_ne q3]; exact h.h1, h.hos, by rw [upd_ne r2]; exact h.h2, by rw [upd_ne s1]; exact h.h3, h.hw.wr fun a m => (A.w a m).2.2.2.2.1, upd_same, by rw [upd_ne t1.symm]; exact h.h5, h.ha⟩
theorem LsAt.w5 (h : LsAt K H B p a1 a2 a3 a4 a5 was os S) (A : LsApart p a1 a2 a3 a4 a5 was) (l : List Int) : LsAt K (upd H a5 (.lst (l.map V.int))) B p a1 a2 a3 a4 a5 was os { S with given := l } := by
  obtain ⟨⟨_, _, _, _, p5⟩, ⟨_, _, _, q4⟩, ⟨_, _, r3⟩, ⟨_, s2⟩, t1⟩ := A.h
  exact ⟨by rw [upd_ne p5]; exact h.hp, by rw [upd_ne q4]; exact h.h1, h.hos, by rw [upd_ne r3]; exact h.h2, by rw [upd_ne s2]; exact h.h3, h.hw.wr fun a m => (A.w a m).2.2.2.2.2, by rw [upd_ne t1]; exact h.h4, upd_same, h.ha⟩
/-- the n-th pair is written -/
theorem PairsAt.set : ∀ {as : List Addr} {vs : List (Int × Int)} {n : Nat} {a : Addr} {z : Int × Int} {f : Int × Int → Int × Int}, PairsAt H as vs → as[n]? = some a → vs[n]? = some z → as.Nodup → PairsAt (upd H a (.lst [.int (f z).1, .int (f z).2])) as (vs.modify n f)
  | _, _, _, _, _, _, .nil, e, _, _ => by simp at e
  | a0 :: as, v0 :: vs, 0, a, z, f, .cons h t, e, e2, nd => by
    simp at e e2
    subst e e2
    rw [List.nodup_cons] at nd
    exact .cons upd_same (t.wr fun b m q => nd.1 (q ▸ m))
  | a0 :: as, v0 :: vs, n + 1, a, z, f, .cons h t, e, e2, nd => by
    have e' : as[n]? = some a := by simpa using e
    have e2' : vs[n]? = some z := by simpa using e2
    rw [List.nodup_cons] at nd
    have ne : a0 ≠ a := fun q => nd.1 (q ▸ List.mem_of_getElem? e')
    rw [List.modify_succ_cons]
    exact .cons (by rw [upd_ne ne]; exact h) (PairsAt.set (f := f) t e' e2' nd.2)
theorem PairsAt.at_ : ∀ {as : List Addr} {vs : List (Int × Int)} {n : Nat} {z : Int × Int}, PairsAt H as vs → vs[n]? = some z → ∃ a, as[n]? = some a ∧ H a = some (.lst [.int z.1, .int z.2])
  | _, _, _, _, .nil, e => by simp at e
  | a0 :: as, v0 :: vs, 0, z, .cons h t, e => by
    simp at e
    subst e
    exact ⟨a0, rfl, h⟩
  | a0 :: as, v0 :: vs, n + 1, z, .cons h t, e => by
    obtain ⟨a, h1, h2⟩ := PairsAt.at_ t (show vs[n]? = some z by simpa using e)
    exact ⟨a, by simpa using h1, h2⟩
theorem PairsAt.len : ∀ {as : List Addr} {vs : List (Int × Int)}, PairsAt H as vs → as.length = vs.length
  | _, _, .nil => rfl
  | _, _, .cons _ t => by rw [List.length_cons, List.length_cons, t.len]
theorem PairsAt.snoc {c : Addr} {z : Int × Int} (hc : H c = some (.lst [.int z.1, .int z.2])) : ∀ {as : List Addr} {vs : List (Int × Int)}, PairsAt H as vs → PairsAt H (as ++ [c]) (vs ++ [z])
  | _, _, .nil => .cons hc .nil
  | _, _, .cons h t => .cons h (t.snoc hc)
theorem LsAt.wW (h : LsAt K H B p a1 a2 a3 a4 a5 was os S) (A : LsApart p a1 a2 a3 a4 a5 was) {n : Nat} {a : Addr} {z : Int × Int} (f : Int × Int → Int × Int) (ha : was[n]? = some a) (hz : S.worth[n]? = some z) : LsAt K (upd H a (.lst [.int (f z).1, .int (f z).2])) B p a1 a2 a3 a4 a5 was os { S with worth := S.worth.modify n f } := by
  obtain ⟨p1, q1, r1, s1, t1, u1⟩ := A.w a (List.mem_of_getElem? ha)
  exact ⟨by rw [upd_ne p1.symm]; exact h.hp, by rw [upd_ne q1.symm]; exact h.h1, h.hos, by rw [upd_ne r1.symm]; exact h.h2, by rw [upd_ne s1.symm]; exact h.h3, h.hw.set (f := f) ha hz A.nd, by rw [upd_ne t1.symm]; exact h.h4, by rw [upd_ne u1.symm]; exact h.h5, h.ha⟩
theorem LsAt.w3 (h : LsAt K H B p a1 a2 a3 a4 a5 was os S) (A : LsApart p a1 a2 a3 a4 a5 was) {c : Addr} {z : Int × Int} (hc : H c = some (.lst [.int z.1, .int z.2])) (nc : c ≠ a3) : LsAt K (upd H a3 (.lst ((was ++ [c]).map V.ref))) B p a1 a2 a3 a4 a5 (was ++ [c]) os { S with worth := S.worth ++ [z] } := by
  obtain ⟨⟨_, _, p3, _⟩, ⟨_, q2, _⟩, ⟨r1, _⟩, ⟨s1, s2⟩, _⟩ := A.h
  refine ⟨by rw [upd_ne p3]; exact h.hp, by rw [upd_ne q2]; exact h.h1, h.hos, by rw [upd_ne r1]; exact h.h2, upd_same, ?_, by rw [upd_ne s1.symm]; exact h.h4, by rw [upd_ne s2.symm]; exact h.h5, h.ha⟩
  exact (h.hw.snoc hc).wr fun a m => (List.mem_append.mp m).elim (fun m => (A.w a m).2.2.2.1) fun m => by rw [List.mem_singleton.mp m]; exact nc
end
section
variable {K : PySem.W.Frag} {base : Hp} {O0 O : Hid} {σ : L2.St} {H : Hp} {env : PL.Env} {i : Nat} {S0 : LS}
/-- the state of slot i: its cells, and what is asked of a change -/
theorem Sat.ls (S : Sat K base O0 O σ H env) (hi : env[i]? = some (.ob (.ls S0))) : ∃ p a1 a2 a3 a4 a5 was os, σ[i]? = some (some (.ref p)) ∧ LsAt K H (vis O H) p a1 a2 a3 a4 a5 was os S0 ∧ (lsFp p a1 a2 a3 a4 a5 was).Nodup ∧ (∀ a ∈ lsFp p a1 a2 a3 a4 a5 was, O a = true ∧ base a = none) ∧
    ∀ (H' : Hp) (b1 : Addr) (was' : List Addr) (os' : List V) (S' : LS), Moved H H' (lsFp p a1 a2 a3 a4 a5 was) (lsFp p b1 a2 a3 a4 a5 was') → (PL.Ex (vis O H) (vis (hidL O (lsFp p b1 a2 a3 a4 a5 was')) H') → LsAt K H' (vis (hidL O (lsFp p b1 a2 a3 a4 a5 was')) H') p b1 a2 a3 a4 a5 was' os' S') →
      ∃ O', PL.Ex (vis O H) (vis O' H') ∧ Sat K base O0 O' σ H' (env.set i (.ob (.ls S'))) := by
  obtain ⟨v, fp, hx, oa, r0, mv⟩ := S.mutOb hi
  obtain ⟨p, a1, a2, a3, a4, a5, was, os, rfl, rfl, h, nd⟩ := ls_obr r0
  refine ⟨p, a1, a2, a3, a4, a5, was, os, hx, h, nd, oa, fun H' b1 was' os' S' M hn => ?_⟩
  have ev := vis_moved (O := O) M.keep M.newc (fun a m => (oa a m).1)
  obtain ⟨e1, S1⟩ := mv H' _ (.ls S') M (obr_ls (hn ev) M.nd)
  exact ⟨_, e1, S1⟩
end
/-! ### statements -/
def sOpnApp (i : Nat) (f : PL.Env → Option PyData) : PL.Env → Option Out := fun env => match env[i]? with
  | some (.ob (.ls S)) => (f env).bind fun d => match d with
    | .tuple [.str x, .int n] => if S.opn.length < 100000 then some (.nx (env.set i (.ob (.ls { S with opn := S.opn ++ [(x, n)] })))) else none
    | _ => none
  | _ => none
def sTold (i : Nat) (f : PL.Env → Option PyData) : PL.Env → Option Out := fun env => match env[i]? with
  | some (.ob (.ls S)) => (f env).bind fun d => match d with
    | .int n => if S.told.length < 100000 then some (.nx (env.set i (.ob (.ls { S with told := S.told ++ [n] })))) else none
    | _ => none
  | _ => none
def sMany (i : Nat) (f : PL.Env → Option PyData) : PL.Env → Option Out := fun env => match env[i]? with
  | some (.ob (.ls S)) => (f env).bind fun d => match d with
    | .int n => some (.nx (env.set i (.ob (.ls { S with many := n }))))
    | _ => none
  | _ => none
section
variable {K : PySem.W.Frag} {i : Nat} {te tk : TE} {f g : PL.Env → Option PyData}
theorem dens_opnapp (h : DenP K te f) : DenS K (tDrop (tBM K "list" rAppend (tDGet (tVar i) (tC (.str "open"))) (tCons te tNil))) (sOpnApp i f) := by
  intro base O0 O σ H env o D S e P
  unfold sOpnApp at e
  split at e
  · rename_i S0 hi
    cases k1 : f env with
    | none => simp [k1] at e
    | some d =>
      simp only [k1, Option.bind_some] at e
      split at e
      · rename_i x n
        split at e
        case isFalse => cases e
        rename_i hl
        cases e
        obtain ⟨p, a1, a2, a3, a4, a5, was, os, hx, h0, nd0, _, _⟩ := S.ls hi
        refine ⟨_, hx, p, _, rfl, (get_open h0.hp).1, Or.inl ⟨rfl, os, SqL.of h0.h1⟩, ?_⟩
        refine h base O0 O σ H env _ S k1 _ fun v H1 x1 rv => ?_
        obtain ⟨p', b1, b2, b3, b4, b5, was1, os1, hx1, h1, nd1, _, mv⟩ := (S.mono x1).ls hi
        rw [hx] at hx1
        cases hx1
        have e1 : a1 = b1 := by
          have z := x1 _ _ h0.hp
          rw [h1.hp] at z
          injection z with z
          injection z with z
          injection z with z _
          injection z with _ z
          injection z with z
          exact z.symm
        subst e1
        refine ⟨a1, os1, v, rfl, rfl, h1.h1, ?_, ?_⟩
        · have := h1.hos.length
          rw [List.length_map] at this
          rw [this]
          have := big 100000 (Nat.le_refl _)
          omega
        · obtain ⟨O', ev, S2⟩ := mv _ a1 was1 (os1 ++ [v]) { S0 with opn := S0.opn ++ [(x, n)] } (Moved.wr nd1 (by unfold lsFp; simp)) fun ev => (h1.seen ev).w1 (ls_apart nd1) (by
            rw [List.map_append]
            exact (h1.hos.mono ev).append (.cons (rv.mono ev) .nil))
          exact P O' σ _ ((vis_mono x1).trans ev) S2
      · cases e
  · cases e
theorem dens_told (h : DenP K te f) : DenS K (tDrop (tBM K "list" rAppend (tDGet (tVar i) (tC (.str "told"))) (tCons te tNil))) (sTold i f) := by
  intro base O0 O σ H env o D S e P
  unfold sTold at e
  split at e
  · rename_i S0 hi
    cases k1 : f env with
    | none => simp [k1] at e
    | some d =>
      simp only [k1, Option.bind_some] at e
      split at e
      · rename_i n
        split at e
        case isFalse => cases e
        rename_i hl
        cases e
        obtain ⟨p, a1, a2, a3, a4, a5, was, os, hx, h0, nd0, _, _⟩ := S.ls hi
        refine ⟨_, hx, p, _, rfl, (get_open h0.hp).2.2.2.1, Or.inl ⟨rfl, _, SqL.of h0.h4⟩, ?_⟩
        refine h base O0 O σ H env _ S k1 _ fun v H1 x1 rv => ?_
        cases rv
        obtain ⟨p', b1, b2, b3, b4, b5, was1, os1, hx1, h1, nd1, _, mv⟩ := (S.mono x1).ls hi
        rw [hx] at hx1
        cases hx1
        have e1 : a4 = b4 := by
          have z := x1 _ _ h0.hp
          rw [h1.hp] at z
          simp only [Option.some.injEq, HO.dK.injEq, List.cons.injEq, Prod.mk.injEq, V.ref.injEq] at z
          exact z.2.2.2.1.2.symm
        subst e1
        refine ⟨a4, _, .int n, rfl, rfl, h1.h4, ?_, ?_⟩
        · rw [List.length_map]
          have := big 100000 (Nat.le_refl _)
          omega
        · obtain ⟨O', ev, S2⟩ := mv _ b1 was1 os1 { S0 with told := S0.told ++ [n] } (Moved.wr (c := a4) (o := .lst ((S0.told ++ [n]).map V.int)) nd1 (by unfold lsFp; simp)) fun ev => (h1.seen ev).w4 (ls_apart nd1) _
          rw [List.map_append] at ev S2
          exact P O' σ _ ((vis_mono x1).trans ev) S2
      · cases e
  · cases e
theorem dens_many (h : DenP K te f) : DenS K (sDPut (tVar i) (tC (.str "many")) te) (sMany i f) := by
  intro base O0 O σ H env o D S e P
  unfold sMany at e
  split at e
  · rename_i S0 hi
    cases k1 : f env with
    | none => simp [k1] at e
    | some d =>
      simp only [k1, Option.bind_some] at e
      split at e
      · rename_i n
        cases e
        refine h base O0 O σ H env _ S k1 _ fun v H1 x1 rv => ?_
        cases rv
        obtain ⟨p, a1, a2, a3, a4, a5, was, os, hx, h1, nd1, _, mv⟩ := (S.mono x1).ls hi
        refine ⟨_, hx, p, _, rfl, DPut.k (k := kS "many") h1.hp (by rw [sizeLine_eq]; show 6 < _; omega), ?_⟩
        have hput : putK [(kS "open", V.ref a1), (kS "held", .ref a2), (kS "worth", .ref a3), (kS "told", .ref a4), (kS "given", .ref a5), (kS "many", .int S0.many)] (kS "many") (.int n) = [(kS "open", V.ref a1), (kS "held", .ref a2), (kS "worth", .ref a3), (kS "told", .ref a4), (kS "given", .ref a5), (kS "many", .int n)] := by
          have ne : ∀ x y : Str, decide (x = y) = false → ¬ kS x = kS y := fun x y h e => of_decide_eq_false h (kS_inj.mp e)
          unfold putK
          rw [if_pos (by simp), List.map_cons, List.map_cons, List.map_cons, List.map_cons, List.map_cons, List.map_cons]
          rw [if_neg (ne "open" "many" (by decide +kernel)), if_neg (ne "held" "many" (by decide +kernel)), if_neg (ne "worth" "many" (by decide +kernel)), if_neg (ne "told" "many" (by decide +kernel)), if_neg (ne "given" "many" (by decide +kernel)), if_pos rfl]
          rfl
        rw [hput]
        obtain ⟨O', ev, S2⟩ := mv _ a1 was os { S0 with many := n } (Moved.wr nd1 (by unfold lsFp; simp)) fun ev => (h1.seen ev).wP (ls_apart nd1) n
        exact P O' σ _ ((vis_mono x1).trans ev) S2
      · cases e
  · cases e
end
end PL
/-! The law's own state, changed: names, values, what is given, what is open. -/
namespace PL
open PySem L2 PySem.Spec PyProof.Rows
def sHold (i : Nat) (f g : PL.Env → Option PyData) : PL.Env → Option Out := fun env => match env[i]? with
  | some (.ob (.ls S)) => (g env).bind fun z => (f env).bind fun d => match d, z with
    | .str x, .int n => if 0 ≤ n ∧ S.held.length < 100000 then some (.nx (env.set i (.ob (.ls { S with held := putA S.held x n.toNat })))) else none
    | _, _ => none
  | _ => none
def sWorth (i : Nat) (f : PL.Env → Option (List PyData)) : PL.Env → Option Out := fun env => match env[i]? with
  | some (.ob (.ls S)) => (f env).bind fun ds => match ds with
    | [.int w, .int h] => if S.worth.length < 100000 then some (.nx (env.set i (.ob (.ls { S with worth := S.worth ++ [(w, h)] })))) else none
    | _ => none
  | _ => none
def sGivn (i : Nat) (f : PL.Env → Option (List PyData)) : PL.Env → Option Out := fun env => match env[i]? with
  | some (.ob (.ls S)) => (f env).bind fun ds => (asInts ds).bind fun ns => if S.given.length + ns.length ≤ 100000 then some (.nx (env.set i (.ob (.ls { S with given := S.given ++ ns })))) else none
  | _ => none
def asQ : PyData → Option (Str × Int)
  | .tuple [.str x, .int n] => some (x, n)
  | _ => none
def sOpnSet (i : Nat) (f : PL.Env → Option (List PyData)) : PL.Env → Option Out := fun env => match env[i]? with
  | some (.ob (.ls S)) => (f env).bind fun ds => (decL asQ ds).map fun l => .nx (env.set i (.ob (.ls { S with opn := l })))
  | _ => none
theorem asQ_inv {d : PyData} {q : Str × Int} (h : asQ d = some q) : d = .tuple [.str q.1, .int q.2] := by
  unfold asQ at h
  split at h
  · cases h
    rfl
  · cases h
section
variable {K : PySem.W.Frag} {i : Nat} {te tk : TE} {f g : PL.Env → Option PyData} {fn : PL.Env → Option (List PyData)}
theorem same_ls {H H1 : Hp} {p a1 a2 a3 a4 a5 b1 b2 b3 b4 b5 : Addr} {n m : Int} (x : PL.Ex H H1) (h : H p = some (.dK [(kS "open", .ref a1), (kS "held", .ref a2), (kS "worth", .ref a3), (kS "told", .ref a4), (kS "given", .ref a5), (kS "many", .int n)]))
    (h1 : H1 p = some (.dK [(kS "open", .ref b1), (kS "held", .ref b2), (kS "worth", .ref b3), (kS "told", .ref b4), (kS "given", .ref b5), (kS "many", .int m)])) : a1 = b1 ∧ a2 = b2 ∧ a3 = b3 ∧ a4 = b4 ∧ a5 = b5 := by
  have z := x _ _ h
  rw [h1] at z
  simp only [Option.some.injEq, HO.dK.injEq, List.cons.injEq, Prod.mk.injEq, V.ref.injEq] at z
  exact ⟨z.1.2.symm, z.2.1.2.symm, z.2.2.1.2.symm, z.2.2.2.1.2.symm, z.2.2.2.2.1.2.symm⟩
theorem dens_hold (hk : DenP K tk f) (h : DenP K te g) : DenS K (sDPut (tDGet (tVar i) (tC (.str "held"))) tk te) (sHold i f g) := by
  intro base O0 O σ H env o D S e P
  unfold sHold at e
  split at e
  · rename_i S0 hi
    cases k1 : g env with
    | none => simp [k1] at e
    | some z =>
      cases k2 : f env with
      | none => simp [k1, k2] at e
      | some d =>
        simp only [k1, k2, Option.bind_some] at e
        split at e
        · rename_i x n
          split at e
          case isFalse => cases e
          rename_i hc
          cases e
          refine h base O0 O σ H env _ S k1 _ fun v H1 x1 rv => ?_
          cases rv
          obtain ⟨p, a1, a2, a3, a4, a5, was, os, hx, h1, nd1, _, _⟩ := (S.mono x1).ls hi
          refine ⟨_, hx, p, _, rfl, (get_open h1.hp).2.1, ?_⟩
          refine hk base O0 O σ H1 env _ (S.mono x1) k2 _ fun u H2 x2 ru => ?_
          cases ru
          obtain ⟨p', b1, b2, b3, b4, b5, was2, os2, hx2, h2, nd2, _, mv⟩ := ((S.mono x1).mono x2).ls hi
          rw [hx] at hx2
          cases hx2
          obtain ⟨_, rfl, _⟩ := same_ls x2 h1.hp h2.hp
          have hd := DPut.k (k := kS x) (v := V.int n) h2.h2 (by rw [List.length_map, sizeLine_eq]; omega)
          refine ⟨a2, _, rfl, hd, ?_⟩
          have hn : (n.toNat : Int) = n := by omega
          have hput : putK (S0.held.map fun q => (kS q.1, V.int (q.2 : Int))) (kS x) (.int n) = (putA S0.held x n.toNat).map fun q => (kS q.1, V.int (q.2 : Int)) := by
            have := putK_kvs (f := fun m : Nat => V.int (m : Int)) S0.held x n.toNat
            unfold kvs at this
            rw [hn] at this
            exact this
          rw [hput]
          obtain ⟨O', ev, S2⟩ := mv _ b1 was2 os2 { S0 with held := putA S0.held x n.toNat } (Moved.wr nd2 (by unfold lsFp; simp)) fun ev => (h2.seen ev).w2 (ls_apart nd2) _
          exact P O' σ _ ((vis_mono (x1.trans x2)).trans ev) S2
        · cases e
  · cases e
theorem dens_worth (h : DenN K te fn) : DenS K (tDrop (tBM K "list" rAppend (tDGet (tVar i) (tC (.str "worth"))) (tCons te tNil))) (sWorth i fn) := by
  intro base O0 O σ H env o D S e P
  unfold sWorth at e
  split at e
  · rename_i S0 hi
    cases k1 : fn env with
    | none => simp [k1] at e
    | some ds =>
      simp only [k1, Option.bind_some] at e
      split at e
      · rename_i w z
        split at e
        case isFalse => cases e
        rename_i hl
        cases e
        obtain ⟨p, a1, a2, a3, a4, a5, was, os, hx, h0, nd0, oa, mv⟩ := S.ls hi
        refine ⟨_, hx, p, _, rfl, (get_open h0.hp).2.2.1, Or.inl ⟨rfl, _, SqL.of h0.h3⟩, ?_⟩
        refine h base O0 O σ H env _ S k1 _ fun c vs H1 hc x1 h1 r => ?_
        have hv : vs = [.int w, .int z] := by
          cases r with
          | cons r t =>
            cases r
            cases t with
            | cons r t =>
              cases r
              cases t
              rfl
        subst hv
        have nc : ∀ b ∈ lsFp p a1 a2 a3 a4 a5 was, b ≠ c := fun b m q => h0.live b m (q ▸ hc)
        refine ⟨a3, _, .ref c, rfl, rfl, x1 _ _ h0.h3, ?_, ?_⟩
        · rw [List.length_map, h0.hw.len]
          have := big 100000 (Nat.le_refl _)
          omega
        · have A := ls_apart nd0
          have M : Moved H (upd H1 a3 (.lst (was.map V.ref ++ [.ref c]))) (lsFp p a1 a2 a3 a4 a5 was) (lsFp p a1 a2 a3 a4 a5 (was ++ [c])) := by
            refine ⟨fun b u hb n => ?_, fun b hb => ?_, fun b m => ?_, ?_⟩
            · rw [upd_ne (fun q => n (by rw [q]; unfold lsFp; simp))]
              exact x1 _ _ hb
            · by_cases q : b = a3
              · rw [q, upd_same]
                exact fun z => nomatch z
              · rw [upd_ne q]
                cases hq : H b with
                | none => exact absurd hq hb
                | some u => rw [x1 _ _ hq]; exact fun z => nomatch z
            · unfold lsFp at m ⊢
              simp only [List.mem_cons, List.mem_append, List.not_mem_nil, or_false] at m ⊢
              rcases m with m | m | m | m | m | m | m | m
              · exact .inl (.inl m)
              · exact .inl (.inr (.inl m))
              · exact .inl (.inr (.inr (.inl m)))
              · exact .inl (.inr (.inr (.inr (.inl m))))
              · exact .inl (.inr (.inr (.inr (.inr (.inl m)))))
              · exact .inl (.inr (.inr (.inr (.inr (.inr (.inl m))))))
              · exact .inl (.inr (.inr (.inr (.inr (.inr (.inr m))))))
              · exact .inr (by rw [m]; exact hc)
            · have : lsFp p a1 a2 a3 a4 a5 (was ++ [c]) = lsFp p a1 a2 a3 a4 a5 was ++ [c] := rfl
              rw [this, List.nodup_append]
              exact ⟨nd0, by simp, fun a ma b mb => by rw [List.mem_singleton.mp mb]; exact nc a ma⟩
          have h0' : LsAt K H1 (vis O H) p a1 a2 a3 a4 a5 was os S0 := h0.sub fun a _ o ho => x1 _ _ ho
          have e3 : was.map V.ref ++ [V.ref c] = (was ++ [c]).map V.ref := by rw [List.map_append]; rfl
          obtain ⟨O', ev, S2⟩ := mv _ a1 (was ++ [c]) os { S0 with worth := S0.worth ++ [(w, z)] } M fun ev => by
            rw [e3] at ev ⊢
            exact (h0'.seen ev).w3 A (c := c) (z := (w, z)) h1 (fun q => nc a3 (by unfold lsFp; simp) q.symm)
          exact P O' σ _ ev S2
      · cases e
  · cases e
theorem dens_givn (h : DenN K te fn) : DenS K (tDrop (tBM K "list" rExtend (tDGet (tVar i) (tC (.str "given"))) (tCons te tNil))) (sGivn i fn) := by
  intro base O0 O σ H env o D S e P
  unfold sGivn at e
  split at e
  · rename_i S0 hi
    cases k1 : fn env with
    | none => simp [k1] at e
    | some ds =>
      simp only [k1, Option.bind_some] at e
      cases k2 : asInts ds with
      | none => simp [k2] at e
      | some ns =>
        simp only [k2, Option.bind_some] at e
        split at e
        case isFalse => cases e
        rename_i hl
        cases e
        have hds := asInts_inv k2
        subst hds
        obtain ⟨p, a1, a2, a3, a4, a5, was, os, hx, h0, nd0, _, _⟩ := S.ls hi
        refine ⟨_, hx, p, _, rfl, (get_open h0.hp).2.2.2.2.1, Or.inl ⟨rfl, _, SqL.of h0.h5⟩, ?_⟩
        refine h base O0 O σ H env _ S k1 _ fun c vs H1 hc x1 h1 r => ?_
        have hv := rp_ints r
        subst hv
        obtain ⟨p', b1, b2, b3, b4, b5, was1, os1, hx1, h2, nd1, _, mv⟩ := (S.mono x1).ls hi
        rw [hx] at hx1
        cases hx1
        obtain ⟨_, _, _, _, rfl⟩ := same_ls x1 h0.hp h2.hp
        refine ⟨a5, c, _, _, rfl, rfl, h2.h5, h1, ?_, ?_⟩
        · rw [List.length_map, List.length_map]
          exact big _ hl
        · obtain ⟨O', ev, S2⟩ := mv _ b1 was1 os1 { S0 with given := S0.given ++ ns } (Moved.wr (c := a5) (o := .lst ((S0.given ++ ns).map V.int)) nd1 (by unfold lsFp; simp)) fun ev => (h2.seen ev).w5 (ls_apart nd1) _
          rw [List.map_append] at ev S2
          exact P O' σ _ ((vis_mono x1).trans ev) S2
  · cases e
end
end PL
/-! Defs that change the law's own state. -/
namespace PL
open PySem L2 PySem.Spec PyProof.Rows
/-- fp is shown (it is no one's), fp' hidden -/
def swapH (O : Hid) (fp fp' : List Addr) : Hid := fun a => (O a && !decide (a ∈ fp)) || decide (a ∈ fp')
theorem swapH_or {O : Hid} {fp fp' : List Addr} {a : Addr} (h : swapH O fp fp' a = true) : (O a = true ∧ a ∉ fp) ∨ a ∈ fp' := by
  unfold swapH at h
  simpa using h
theorem swapH_of {O : Hid} {fp fp' : List Addr} {a : Addr} (h : (O a = true ∧ a ∉ fp) ∨ a ∈ fp') : swapH O fp fp' a = true := by
  unfold swapH
  simpa using h
structure Kept (H H' : Hp) (fp fp' : List Addr) : Prop where
  keep : ∀ b o, H b = some o → b ∉ fp → H' b = some o
  newc : ∀ b ∈ fp', b ∈ fp ∨ H b = none
section
variable {K : PySem.W.Frag} {base : Hp} {O0 O : Hid} {σ : L2.St} {H H' : Hp} {env : PL.Env}
theorem vis_swap {fp fp' : List Addr} (k : Kept H H' fp fp') (hf : ∀ a ∈ fp, O a = true) : PL.Ex (vis O H) (vis (swapH O fp fp') H') := fun b o hb => by
  have h1 := vis_le b o hb
  have nb : O b = false := by
    cases z : O b with
    | false => rfl
    | true =>
      unfold vis at hb
      rw [if_pos z] at hb
      cases hb
  have nf : b ∉ fp := fun m => by rw [hf b m] at nb; cases nb
  refine vis_at ?_ (k.keep b o h1 nf)
  cases z : swapH O fp fp' b with
  | false => rfl
  | true =>
    rcases swapH_or z with z | z
    · rw [z.1] at nb; cases nb
    · rcases k.newc b z with m | m
      · exact absurd m nf
      · rw [m] at h1; cases h1
theorem Sat.swapOb {i : Nat} {s : ObS} (S : Sat K base O0 O σ H env) (hi : env[i]? = some (.ob s)) : ∃ v fp, σ[i]? = some (some v) ∧ (∀ a ∈ fp, O a = true ∧ base a = none) ∧ ObR K v fp H (vis O H) s ∧
    ∀ (H' : Hp) (fp' : List Addr) (s' : ObS), Kept H H' fp fp' → ObR K v fp' H' (vis (swapH O fp fp') H') s' → PL.Ex (vis O H) (vis (swapH O fp fp') H') ∧ Sat K base O0 (swapH O fp fp') σ H' (env.set i (.ob s')) := by
  obtain ⟨fps, S⟩ := S
  have hil : i < env.length := (List.getElem?_eq_some_iff.mp hi).1
  have hs : i < σ.length := by rw [S.len]; exact hil
  obtain ⟨v, hx, oa, r⟩ := S.sl i _ _ (List.getElem?_eq_getElem hs) hi
  have hx' : σ[i]? = some (some v) := by rw [List.getElem?_eq_getElem hs, hx]
  refine ⟨v, fps i, hx', oa, r, fun H' fp' s' M r' => ?_⟩
  have ev := vis_swap (O := O) M (fun a m => (oa a m).1)
  have es_ : σ.set i (some v) = σ := by
    apply List.ext_getElem?
    intro k
    by_cases q : i = k
    · subst q
      rw [List.getElem?_set_self hs, hx']
    · rw [List.getElem?_set_ne q]
  have g := S.put (O' := swapH O (fps i) fp') (H' := H') (fp := fp') (i := i) (x := some v) (s := .ob s') (fun b o hb => M.keep b o (S.ex b o hb) fun m => by rw [(oa b m).2] at hb; cases hb) ev (fun a q => by
      rcases swapH_or q with q | q
      · exact S.new a q.1
      · rcases M.newc a q with m | m
        · exact .inr (oa a m).2
        · exact .inr (S.ex.free m)) (fun a q => swapH_of (.inl ⟨S.sub a q, fun m => S.b0 a q (oa a m).2⟩)) (fun a q => by
      rcases swapH_or q with q | q
      · cases z : H a with
        | none => exact absurd z (S.all a q.1)
        | some o =>
          rw [M.keep a o z q.2]
          exact fun z => nomatch z
      · exact r'.2.1 a q)
    (fun j n a m => by
      have nf : a ∉ fps i := fun q => S.sep j i a n m q
      have la := S.all a (S.cells j a m).1
      refine ⟨?_, swapH_of (.inl ⟨(S.cells j a m).1, nf⟩), fun q => ?_⟩
      · cases z : H a with
        | none => exact absurd z la
        | some o => exact M.keep a o z nf
      · rcases M.newc a q with z | z
        · exact nf z
        · exact la z) ⟨v, rfl, fun a m => ⟨swapH_of (.inr m), (by
      rcases M.newc a m with z | z
      · exact (oa a z).2
      · exact S.ex.free z)⟩, r'⟩ hil
  rw [es_] at g
  exact ⟨ev, _, g⟩
end
/-! ### such a def's promise -/
def spM (K : PySem.W.Frag) (n i : Nat) (f : LS → List PyData → Option LS) : Sp := fun vs H Q _ => ∃ (O : Hid) (ds : List PyData) (p : Addr) (fp : List Addr) (S S' : LS), vs.length = n ∧ ds.length = n ∧ (∀ a, O a = true → H a ≠ none) ∧ vs[i]? = some (.ref p) ∧ (∀ a ∈ fp, O a = true) ∧ ObR K (.ref p) fp H (vis O H) (.ls S) ∧ S.here = some p ∧
  (∀ j v d, j ≠ i → vs[j]? = some v → ds[j]? = some d → Rp K (vis O H) v d) ∧ f S ds = some S' ∧ ∀ H' fp', Kept H H' fp fp' → ObR K (.ref p) fp' H' (vis (swapH O fp fp') H') (.ls S') → Q .non H'
def fnM (n i : Nat) (F : PL.Env → Option Out) : LS → List PyData → Option LS := fun S ds => match F ((fEnv n ds).set i (.ob (.ls S))) with
  | some (.nx e) => match e[i]? with
    | some (.ob (.ls S')) => if S'.here = S.here then some S' else none
    | _ => none
  | _ => none
section
variable {K : PySem.W.Frag}
theorem sat_startM {O : Hid} {H : Hp} {vs : List V} {ds : List PyData} {N : List Str} {i : Nat} {p : Addr} {fp : List Addr} {S : LS} (al : ∀ a, O a = true → H a ≠ none) (hl : vs.length = ds.length) (hv : vs[i]? = some (.ref p)) (hf : ∀ a ∈ fp, O a = true) (ob : ObR K (.ref p) fp H (vis O H) (.ls S))
    (r : ∀ j v d, j ≠ i → vs[j]? = some v → ds[j]? = some d → Rp K (vis O H) v d) (hn : vs.length ≤ N.length) : Sat K (fun a => if a ∈ fp then none else H a) (fun a => O a && !decide (a ∈ fp)) O (L2.start N vs) H ((fEnv N.length ds).set i (.ob (.ls S))) := by
  have hiv : i < vs.length := (List.getElem?_eq_some_iff.mp hv).1
  refine ⟨fun j => if j = i then fp else [], fun a o h => ?_, fun a h => ?_, fun a h => ?_, fun a h => ?_, al, ?_, fun j x s h1 h2 => ?_, fun j hj => ?_, fun j k a n h1 h2 => ?_⟩
  · try simp only at h
    split at h
    · cases h
    · exact h
  · by_cases m : a ∈ fp
    · exact .inr (by simp [m])
    · exact .inl (by simp [m, h])
  · have : O a = true ∧ a ∉ fp := by simpa using h
    simp only [if_neg this.2]
    exact al a this.1
  · have : O a = true ∧ a ∉ fp := by simpa using h
    exact this.1
  · unfold L2.start fEnv
    rw [List.length_set, List.length_append, List.length_append, List.length_map, List.length_map, List.length_replicate, List.length_replicate, hl]
  · by_cases e : j = i
    · subst e
      have h2' : s = .ob (.ls S) := by
        rw [List.getElem?_set_self (by
          unfold fEnv
          rw [List.length_append, List.length_map]
          omega)] at h2
        exact (Option.some.inj h2).symm
      subst h2'
      have h1' : x = some (.ref p) := by
        unfold L2.start at h1
        rw [List.getElem?_append_left (by rw [List.length_map]; exact hiv), List.getElem?_map, hv] at h1
        exact (Option.some.inj h1).symm
      subst h1'
      show ∃ v, some (V.ref p) = some v ∧ _
      simp only [if_pos]
      exact ⟨_, rfl, fun a m => ⟨hf a m, if_pos m⟩, ob⟩
    · simp only [if_neg e]
      rw [List.getElem?_set_ne (fun q => e q.symm)] at h2
      unfold L2.start at h1
      unfold fEnv at h2
      by_cases hi : j < vs.length
      · rw [List.getElem?_append_left (by rw [List.length_map]; exact hi), List.getElem?_map] at h1
        rw [List.getElem?_append_left (by rw [List.length_map, ← hl]; exact hi), List.getElem?_map] at h2
        cases q : ds[j]? with
        | none => rw [q] at h2; cases h2
        | some d =>
          rw [q] at h2
          cases h2
          cases q2 : vs[j]? with
          | none => rw [q2] at h1; cases h1
          | some v =>
            rw [q2] at h1
            cases h1
            exact ⟨⟨v, rfl, r j v d e q2 q⟩, rfl⟩
      · rw [List.getElem?_append_right (by rw [List.length_map]; omega), List.getElem?_replicate] at h1
        rw [List.getElem?_append_right (by rw [List.length_map, ← hl]; omega), List.getElem?_replicate] at h2
        split at h1
        · cases h1
          split at h2
          · cases h2
            exact ⟨rfl, rfl⟩
          · cases h2
        · cases h1
  · rw [List.length_set] at hj
    have : i < (fEnv N.length ds).length := by
      unfold fEnv
      rw [List.length_append, List.length_map]
      omega
    simp only [if_neg (show ¬ j = i by omega)]
  · try simp only at h1 h2
    split at h1
    · split at h2
      · rename_i e1 e2
        exact n (e1.trans e2.symm)
      · cases h2
    · cases h1
theorem fn_denM {P : Program} {w : World} {mg : Str → Option Value} {base : Heap} {x qual : Str} {st : Stmt} {f : Addr} {fd : FuncData} {N ps : List Str} {k i : Nat} {F : PL.Env → Option Out} (Fu : Fun K x qual st f fd) (S : FnScope N ps (defScope st)) (hn : ps.length ≤ N.length)
    (hb : ∀ (cdv : Value) (A : Around) (outer : List PySem.Env) (s : Shared) (H : Hp) (E : XK), Room k (A.deeper (envOfC qual (defScope st) s.heap.objs.size f cdv)) →
      ∃ t, PSs (cxOf CX0 P w K mg base N qual (defScope st) f cdv A outer s H E).nox (defBody st) t ∧ DenS K t F) : FnOk P w K mg base CX0 (k + 1) f fd ps (spM K ps.length i (fnM N.length i F)) := by
  refine Fu.ok S (fun vs H Q E h => ?_) (fun cdv A outer s H vs Q E hr h => ?_)
  · obtain ⟨O, ds, p, fp, S, S', hl, _⟩ := h
    exact hl
  · obtain ⟨O, ds, p, fp, S, S', hl, hl2, al, hv, hf, ob, hh, r, hfn, q⟩ := h
    obtain ⟨t, pt, dt⟩ := hb cdv A outer s H E hr
    refine ⟨t, pt, ?_⟩
    unfold fnM at hfn
    split at hfn
    · rename_i e k1
      split at hfn
      · rename_i S2 k2
        split at hfn
        case isFalse => cases hfn
        rename_i k3
        cases hfn
        refine dt _ _ O (L2.start N vs) H _ _ _ (sat_startM al (by rw [hl, hl2]) hv hf ob r (by omega)) k1 fun O2 σ2 H2 x S3 => ?_
        have S3' := S3
        obtain ⟨y, fp', hy, v', e1, oa, r'⟩ := S3.at_ k2
        obtain ⟨p', a1, a2, a3, a4, a5, was, os, rfl, rfl, h', nd'⟩ := ls_obr r'
        have hp : p' = p := h'.ha p (by rw [k3]; exact hh)
        subst hp
        have kp : Kept H H2 fp (lsFp p' a1 a2 a3 a4 a5 was) := by
          refine ⟨fun b o hb nb => S3'.ex b o (by simp only [if_neg nb]; exact hb), fun b m => ?_⟩
          have := (oa b m).2
          simp only at this
          split at this
          · exact .inl (by assumption)
          · exact .inr this
        refine q H2 _ kp ⟨r'.1, r'.2.1, r'.2.2.mono fun b o hb => ?_⟩
        have nb : O2 b = false := by
          cases z : O2 b with
          | false => rfl
          | true =>
            unfold vis at hb
            rw [if_pos z] at hb
            cases hb
        refine vis_at ?_ (vis_le _ _ hb)
        cases z : swapH O fp (lsFp p' a1 a2 a3 a4 a5 was) b with
        | false => rfl
        | true =>
          rcases swapH_or z with z | z
          · rw [S3'.sub b (by simp [z.1, z.2])] at nb
            cases nb
          · rw [(oa b z).1] at nb
            cases nb
      · cases hfn
    · cases hfn
end
end PL
namespace PL
open PySem L2 PySem.Spec PyProof.Rows
def sWAug (i : Nat) (f g : PL.Env → Option PyData) : PL.Env → Option Out := fun env => match env[i]? with
  | some (.ob (.ls S)) => (f env).bind fun d => (g env).bind fun z => match d, z with
    | .int n, .int m => if 0 ≤ n ∧ n.toNat < S.worth.length then some (.nx (env.set i (.ob (.ls { S with worth := S.worth.modify n.toNat fun q => (q.1 + m, q.2) })))) else none
    | _, _ => none
  | _ => none
/-- xs[i], by values, i no less than 0 -/
def rGetL (K : PySem.W.Frag) : V → V → Hp → VK → Prop := fun x y H Q => ∃ p xs i v, x = .ref p ∧ y = .int i ∧ 0 ≤ i ∧ SqL K H p xs ∧ atI xs i = some v ∧ Q v H
theorem get_listP {X : Cx} : PGet X (rGetL X.K) := by
  intro pins s σ H x y v u Q I rx ry h
  obtain ⟨p, xs, i, z, rfl, rfl, h0, hq, he, q⟩ := h
  cases rx
  obtain ⟨t, rfl⟩ := ry
  obtain ⟨its, r, pl, hz⟩ := I.list hq
  obtain ⟨j, h1, h2, h3, h4, h5⟩ := atI_get he
  obtain ⟨w, ew, rw'⟩ := r.get h2
  have hl := r.length
  have hn := line63
  have hj : i.toNat = j := by
    rw [seqIndex_of h0 h5] at h1
    exact Option.some.inj h1
  exact wpAny_getItem_list pl.isList h0 (by omega) (by rw [hj]; simpa using ew) ⟨z, H, I, rw', q⟩
section
variable {K : PySem.W.Frag} {i : Nat} {te tk t0 t2 : TE} {f g f0 f2 : PL.Env → Option PyData} {fn : PL.Env → Option (List PyData)}
theorem dens_waug (hk : DenP K tk f) (h : DenP K te g) : DenS K (tAugS (tOp (rIx K) (tDGet (tVar i) (tC (.str "worth"))) tk) (tC (.int 0)) te (rGetL K) (ipI fun i j => i + j) rSetL) (sWAug i f g) := by
  intro base O0 O σ H env o D S e P
  unfold sWAug at e
  split at e
  · rename_i S0 hi
    cases k1 : f env with
    | none => simp [k1] at e
    | some d =>
      cases k2 : g env with
      | none => simp [k1, k2] at e
      | some z =>
        simp only [k1, k2, Option.bind_some] at e
        split at e
        · rename_i n m
          split at e
          case isFalse => cases e
          rename_i hc
          cases e
          obtain ⟨p, a1, a2, a3, a4, a5, was, os, hx, h0, nd0, _, _⟩ := S.ls hi
          refine ⟨_, hx, p, _, rfl, (get_open h0.hp).2.2.1, ?_⟩
          refine hk base O0 O σ H env _ S k1 _ fun u H1 x1 ru => ?_
          cases ru
          obtain ⟨a, ha, hav⟩ := h0.hw.at_ (List.getElem?_eq_getElem hc.2)
          have hn : (n.toNat : Int) = n := by omega
          refine .inl ⟨a3, _, n, .ref a, rfl, rfl, SqL.of (x1 _ _ h0.h3), ?_, ?_⟩
          · rw [← hn]
            refine atI_nat' ?_
            rw [List.getElem?_map, ha]
            rfl
          refine ⟨a, _, 0, _, rfl, rfl, by omega, SqL.of (x1 _ _ hav), rfl, ?_⟩
          refine h base O0 O σ H1 env _ (S.mono x1) k2 _ fun v H2 x2 rv => ?_
          cases rv
          refine ⟨_, _, rfl, rfl, a, _, 0, 0, rfl, rfl, x2 _ _ (x1 _ _ hav), rfl, ?_⟩
          obtain ⟨p', b1, b2, b3, b4, b5, was2, os2, hx2, h2, nd2, _, mv⟩ := ((S.mono x1).mono x2).ls hi
          rw [hx] at hx2
          cases hx2
          obtain ⟨rfl, rfl, rfl, rfl, rfl⟩ := same_ls (x1.trans x2) h0.hp h2.hp
          have hw : was = was2 := by
            have z := (x1.trans x2) _ _ h0.h3
            rw [h2.h3] at z
            simp only [Option.some.injEq, HO.lst.injEq] at z
            have inj : ∀ l m : List Addr, l.map V.ref = m.map V.ref → l = m := fun l => by
              induction l with
              | nil => intro m e; cases m with | nil => rfl | cons _ _ => cases e
              | cons c l ih =>
                intro m e
                cases m with
                | nil => cases e
                | cons d m =>
                  simp only [List.map_cons, List.cons.injEq, V.ref.injEq] at e
                  rw [e.1, ih m e.2]
            exact (inj _ _ z).symm
          subst hw
          obtain ⟨O', ev, S2⟩ := mv _ a1 was os2 { S0 with worth := S0.worth.modify n.toNat fun q => (q.1 + m, q.2) } (Moved.wr (c := a) nd2 (by
            unfold lsFp
            simp only [List.mem_cons]
            exact .inr (.inr (.inr (.inr (.inr (.inr (List.mem_of_getElem? ha)))))))) fun ev => (h2.seen ev).wW (ls_apart nd2) (fun q => (q.1 + m, q.2)) ha (List.getElem?_eq_getElem hc.2)
          exact P O' σ _ ((vis_mono (x1.trans x2)).trans ev) S2
        · cases e
  · cases e
theorem put_open {p a1 a2 a3 a4 a5 c : Addr} {n : Int} : putK [(kS "open", V.ref a1), (kS "held", .ref a2), (kS "worth", .ref a3), (kS "told", .ref a4), (kS "given", .ref a5), (kS "many", .int n)] (kS "open") (.ref c) = [(kS "open", V.ref c), (kS "held", .ref a2), (kS "worth", .ref a3), (kS "told", .ref a4), (kS "given", .ref a5), (kS "many", .int n)] := by
  have ne : ∀ x y : Str, decide (x = y) = false → ¬ kS x = kS y := fun x y h e => of_decide_eq_false h (kS_inj.mp e)
  unfold putK
  rw [if_pos (by simp), List.map_cons, List.map_cons, List.map_cons, List.map_cons, List.map_cons, List.map_cons]
  rw [if_pos rfl, if_neg (ne "held" "open" (by decide +kernel)), if_neg (ne "worth" "open" (by decide +kernel)), if_neg (ne "told" "open" (by decide +kernel)), if_neg (ne "given" "open" (by decide +kernel)), if_neg (ne "many" "open" (by decide +kernel))]
  rfl
theorem dens_opnset (h : DenN K te fn) : DenS K (sDPut (tVar i) (tC (.str "open")) te) (sOpnSet i fn) := by
  intro base O0 O σ H env o D S e P
  unfold sOpnSet at e
  split at e
  · rename_i S0 hi
    cases k1 : fn env with
    | none => simp [k1] at e
    | some ds =>
      simp only [k1, Option.bind_some] at e
      cases k2 : decL asQ ds with
      | none => simp [k2] at e
      | some l =>
        simp only [k2, Option.map_some] at e
        cases e
        have hds : ds = l.map fun q => PyData.tuple [.str q.1, .int q.2] := decL_inv (f := asQ) (fun d a e => asQ_inv e) k2
        subst hds
        obtain ⟨p, a1, a2, a3, a4, a5, was, os, hx, h0, nd0, oa, mv⟩ := S.ls hi
        refine h base O0 O σ H env _ S k1 _ fun c vs H1 hc x1 h1 r => ?_
        refine ⟨_, hx, p, _, rfl, DPut.k (k := kS "open") (x1 _ _ h0.hp) (by rw [sizeLine_eq]; show 6 < _; omega), ?_⟩
        rw [put_open (p := p)]
        have nc : ∀ b ∈ lsFp p a1 a2 a3 a4 a5 was, b ≠ c := fun b m q => h0.live b m (q ▸ hc)
        have A := ls_apart nd0
        have pm : p ∈ lsFp p a1 a2 a3 a4 a5 was := by unfold lsFp; simp
        have M : Moved H (upd H1 p (.dK [(kS "open", V.ref c), (kS "held", .ref a2), (kS "worth", .ref a3), (kS "told", .ref a4), (kS "given", .ref a5), (kS "many", .int S0.many)])) (lsFp p a1 a2 a3 a4 a5 was) (lsFp p c a2 a3 a4 a5 was) := by
          refine ⟨fun b u hb n => ?_, fun b hb => ?_, fun b m => ?_, ?_⟩
          · rw [upd_ne (fun (q : b = p) => n (by rw [q]; exact pm))]
            exact x1 _ _ hb
          · by_cases q : b = p
            · rw [q, upd_same]
              exact fun z => nomatch z
            · rw [upd_ne q]
              cases hq : H b with
              | none => exact absurd hq hb
              | some u => rw [x1 _ _ hq]; exact fun z => nomatch z
          · unfold lsFp at m ⊢
            simp only [List.mem_cons] at m ⊢
            rcases m with m | m | m | m | m | m | m
            · exact .inl (.inl m)
            · exact .inr (by rw [m]; exact hc)
            · exact .inl (.inr (.inr (.inl m)))
            · exact .inl (.inr (.inr (.inr (.inl m))))
            · exact .inl (.inr (.inr (.inr (.inr (.inl m)))))
            · exact .inl (.inr (.inr (.inr (.inr (.inr (.inl m))))))
            · exact .inl (.inr (.inr (.inr (.inr (.inr (.inr m))))))
          · unfold lsFp at nd0 nc ⊢
            simp only [List.nodup_cons, List.mem_cons, not_or] at nd0 ⊢
            obtain ⟨⟨p1, p2, p3, p4, p5, p6⟩, ⟨q1, q2, q3, q4, q5⟩, n3⟩ := nd0
            have nc2 : ∀ b, b ∈ a2 :: a3 :: a4 :: a5 :: was → c ≠ b := fun b m q => nc b (List.mem_cons_of_mem _ (List.mem_cons_of_mem _ m)) q.symm
            refine ⟨⟨nc p (by simp), p2, p3, p4, p5, p6⟩, ⟨nc2 _ (by simp), nc2 _ (by simp), nc2 _ (by simp), nc2 _ (by simp), fun m => nc2 c (by simp [m]) rfl⟩, n3⟩
        obtain ⟨O', ev, S2⟩ := mv _ c was vs { S0 with opn := l } M fun ev => by
          have up : ∀ b u, b ≠ p → H b = some u → (upd H1 p (.dK [(kS "open", V.ref c), (kS "held", .ref a2), (kS "worth", .ref a3), (kS "told", .ref a4), (kS "given", .ref a5), (kS "many", .int S0.many)])) b = some u := fun b u n hb => by
            rw [upd_ne n]
            exact x1 _ _ hb
          obtain ⟨⟨p1, p2, p3, p4, p5⟩, _⟩ := A.h
          refine ⟨upd_same, by rw [upd_ne (nc p pm).symm]; exact h1, ?_, up _ _ p2.symm h0.h2, up _ _ p3.symm h0.h3, ?_, up _ _ p4.symm h0.h4, up _ _ p5.symm h0.h5, h0.ha⟩
          · refine r.mono fun b u hb => ?_
            have hb1 := vis_le _ _ hb
            have nb : hid O c b = false := by
              cases z : hid O c b with
              | false => rfl
              | true =>
                unfold vis at hb
                rw [if_pos z] at hb
                cases hb
            unfold hid at nb
            rw [Bool.or_eq_false_iff] at nb
            have bc := of_decide_eq_false nb.2
            have nf : b ∉ lsFp p a1 a2 a3 a4 a5 was := fun m => by
              rw [(oa b m).1] at nb
              cases nb.1
            refine vis_at ?_ (by rw [upd_ne (fun (q : b = p) => nf (by rw [q]; exact pm))]; exact hb1)
            unfold hidL
            rw [nb.1, Bool.false_or]
            refine decide_eq_false fun m => ?_
            unfold lsFp at m nf
            simp only [List.mem_cons, not_or] at m nf
            obtain ⟨f1, f2, f3, f4, f5, f6, f7⟩ := nf
            rcases m with m | m | m | m | m | m | m
            · exact f1 m
            · exact bc m
            · exact f3 m
            · exact f4 m
            · exact f5 m
            · exact f6 m
            · exact f7 m
          · exact h0.hw.sub fun a m o ho => up _ _ (A.w a m).1 ho
        exact P O' σ _ ev S2
  · cases e
end
end PL
/-! The law's own state: made, handed on, and all rules. -/
namespace PL
open PySem L2 PySem.Spec PyProof.Rows
def ls0 : LS := ⟨[], [], [], [], [], 0, none⟩
/-- a def of three arguments that changes its second -/
def sDeed (j : Nat) (f0 f2 : PL.Env → Option PyData) (dm : LS → List PyData → Option LS) : PL.Env → Option Out := fun env => match env[j]? with
  | some (.ob (.ls S)) => (f0 env).bind fun d0 => (f2 env).bind fun d2 => (dm S [d0, .none, d2]).map fun S' => .nx (env.set j (.ob (.ls S')))
  | _ => none
/-- g does what dm tells, wherever the state lies -/
def Deeds (g dm : LS → List PyData → Option LS) : Prop := ∀ S ds S', dm S ds = some S' → S'.here = S.here ∧ ∀ p, g { S with here := some p } ds = some { S' with here := some p }
/-- a new one -/
def spF (K : PySem.W.Frag) : Sp := fun vs H Q _ => vs = [] ∧ ∀ p a1 a2 a3 a4 a5 H', Ex H H' → (∀ a ∈ lsFp p a1 a2 a3 a4 a5 [], H a = none) → (lsFp p a1 a2 a3 a4 a5 []).Nodup → (∀ B, LsAt K H' B p a1 a2 a3 a4 a5 [] [] ls0) → Q (.ref p) H'
def sFresh (i : Nat) : PL.Env → Option Out := fun env => if i < env.length then some (.nx (env.set i (.ob (.ls ls0)))) else none
section
variable {K : PySem.W.Frag}
theorem LsAt.at_ {H B : Hp} {p a1 a2 a3 a4 a5 : Addr} {was : List Addr} {os : List V} {S : LS} (h : LsAt K H B p a1 a2 a3 a4 a5 was os S) (o : Option Addr) (ho : ∀ q, o = some q → p = q) : LsAt K H B p a1 a2 a3 a4 a5 was os { S with here := o } := ⟨h.hp, h.h1, h.hos, h.h2, h.h3, h.hw, h.h4, h.h5, ho⟩
variable {i j : Nat} {te t0 t2 : TE} {f0 f2 : PL.Env → Option PyData} {g dm : LS → List PyData → Option LS} {E : XK}
theorem dens_deed (hg : Deeds g dm) (h0 : DenP K t0 f0) (h2 : DenP K t2 f2) : DenS K (tDrop (tCall (spM K 3 1 g) [] E (tCons t0 (tCons (tVar j) (tCons t2 tNil))))) (sDeed j f0 f2 dm) := by
  intro base O0 O σ H env o D S e P
  unfold sDeed at e
  split at e
  · rename_i S0 hi
    cases k1 : f0 env with
    | none => simp [k1] at e
    | some d0 =>
      cases k2 : f2 env with
      | none => simp [k1, k2] at e
      | some d2 =>
        simp only [k1, k2, Option.bind_some] at e
        cases k3 : dm S0 [d0, .none, d2] with
        | none => simp [k3] at e
        | some S' =>
          simp only [k3, Option.map_some] at e
          cases e
          obtain ⟨hh, hp⟩ := hg _ _ _ k3
          refine h0 base O0 O σ H env _ S k1 _ fun v0 H1 x1 r0 => ?_
          obtain ⟨p, _, _, _, _, _, _, _, hx, _⟩ := (S.mono x1).ls hi
          refine ⟨_, hx, ?_⟩
          refine h2 base O0 O σ H1 env _ (S.mono x1) k2 _ fun v2 H2 x2 r2 => ?_
          have S2 := (S.mono x1).mono x2
          obtain ⟨v, fp, hx2, oa, r, mv⟩ := S2.swapOb hi
          rw [hx] at hx2
          cases hx2
          obtain ⟨p', a1, a2, a3, a4, a5, was, os, e1, rfl, h, nd⟩ := ls_obr r
          cases e1
          refine ⟨O, [d0, .none, d2], p, _, { S0 with here := some p }, { S' with here := some p }, rfl, rfl, S2.all, rfl, fun a m => (oa a m).1, obr_ls (h.at_ _ (fun q z => Option.some.inj z)) nd, rfl, fun k v d ne hv hd => ?_, hp p, fun H' fp' kp ob => ?_⟩
          · match k, ne, hv, hd with
            | 0, _, hv, hd =>
              cases hv
              cases hd
              exact r0.mono (vis_mono x2)
            | 1, ne, _, _ => exact absurd rfl ne
            | 2, _, hv, hd =>
              cases hv
              cases hd
              exact r2
            | k + 3, _, hv, _ => simp at hv
          · obtain ⟨p2, b1, b2, b3, b4, b5, was2, os2, e2, rfl, h', nd'⟩ := ls_obr ob
            cases e2
            obtain ⟨ev, S3⟩ := mv H' _ (.ls S') kp (obr_ls (h'.at_ S'.here (fun q z => h.ha q (by rw [← hh]; exact z))) nd')
            exact P _ σ H' ((vis_mono (x1.trans x2)).trans ev) S3
  · cases e
theorem dens_fresh : DenS K (tAsg (tCall (spF K) [] E tNil) (gName i)) (sFresh i) := by
  intro base O0 O σ H env o D S e P
  unfold sFresh at e
  split at e
  case isFalse => cases e
  rename_i hi
  cases e
  refine ⟨rfl, fun p a1 a2 a3 a4 a5 H' x fr nd h => ?_⟩
  have S2 := S.setOb (i := i) x fr (obr_ls (h _) nd) hi
  exact P _ _ H' (vis_moved (fp := []) (fun b u hb _ => x b u hb) (fun b m => .inr (fr b m)) (fun a m => nomatch m)) S2
end
/-! ### rules -/
abbrev subS (x : Str) (px : Pos) (k : Str) (j : Nat) (p3 p4 : Pos) : Expr := .Subscript (.Name x px) (.Constant (.str k) j p3) p4
section
variable {K : PySem.W.Frag} {X : Cx} {x : Str} {px p3 p4 pos q qq ap : Pos} {c : Nat} {e e2 : Expr} {te t2 : TE} {f f2 : PL.Env → Option PyData} {fn : PL.Env → Option (List PyData)}
theorem oLs (i : Nat) (h : PE X (.Name x pos) (tVar i)) : EO K X (.Name x pos) (tVar i) (eLs i) := ⟨h, den_ls⟩
variable (hu : X.A.units + 1 < cLine) (i : Nat) (hx : PE X (.Name x px) (tVar i))
include hu hx
theorem oOpn : EO K X (subS x px "open" c p3 p4) (tDGet (tVar i) (tC (.str "open"))) (eOpn i) := ⟨pe_dget hu hx pe_str (fun _ _ => rfl), den_opn⟩
theorem oToldL : EO K X (subS x px "told" c p3 p4) (tDGet (tVar i) (tC (.str "told"))) (eToldL i) := ⟨pe_dget hu hx pe_str (fun _ _ => rfl), den_toldl⟩
theorem oGivenL : EO K X (subS x px "given" c p3 p4) (tDGet (tVar i) (tC (.str "given"))) (eGivenL i) := ⟨pe_dget hu hx pe_str (fun _ _ => rfl), den_givenl⟩
theorem pMany : EP K X (subS x px "many" c p3 p4) (tDGet (tVar i) (tC (.str "many"))) (eMany i) := ⟨pe_dget hu hx pe_str (fun _ _ => rfl), den_many⟩
theorem zMany (h : EP K X e te f) (hs : swapsWith e (some (subS x px "many" c p3 p4)) pos.line X.env = pure false := by rfl) : ES K X (.Assign [subS x px "many" c p3 p4] e pos) (sDPut (tVar i) (tC (.str "many")) te) (sMany i f) := ⟨ps_dput hu hx pe_str h.pe hs, dens_many h.de⟩
theorem zOpnSet (h : EN K X e te fn) (hs : swapsWith e (some (subS x px "open" c p3 p4)) pos.line X.env = pure false := by rfl) : ES K X (.Assign [subS x px "open" c p3 p4] e pos) (sDPut (tVar i) (tC (.str "open")) te) (sOpnSet i fn) := ⟨ps_dput hu hx pe_str h.pe hs, dens_opnset h.de⟩
theorem zHold {p5 : Pos} (hk : EP K X e2 t2 f2) (h : EP K X e te f) (hs : swapsWith e (some (.Subscript (subS x px "held" c p3 p4) e2 p5)) pos.line X.env = pure false := by rfl) : ES K X (.Assign [.Subscript (subS x px "held" c p3 p4) e2 p5] e pos) (sDPut (tDGet (tVar i) (tC (.str "held"))) t2 te) (sHold i f2 f) :=
  ⟨ps_dput hu (pe_dget hu hx pe_str (fun _ _ => rfl)) hk.pe h.pe hs, dens_hold hk.de h.de⟩
theorem zWAug {p5 p6 p7 : Pos} {c2 : Nat} (hk : EP K X e2 t2 f2) (h : EP K X e te f) (hp : PlainIx e2 := by exact fun _ _ => rfl) (hK : X.K = K := by rfl) : ES K X (.AugAssign (.Subscript (.Subscript (subS x px "worth" c p3 p4) e2 p5) (.Constant (.int 0) c2 p6) p7) .Add e pos) (tAugS (tOp (rIx K) (tDGet (tVar i) (tC (.str "worth"))) t2) (tC (.int 0)) te (rGetL K) (ipI fun i j => i + j) rSetL) (sWAug i f2 f) := by
  subst hK
  exact ⟨ps_augS (pe_ix ix_seq (pe_dget hu hx pe_str (fun _ _ => rfl)) hk.pe hp) pe_int get_listP h.pe ip_add set_list, dens_waug hk.de h.de⟩
section
variable (hb : attributeBase (subS x px "open" c p3 p4) "append" X.env (eval (subS x px "open" c p3 p4) X.env) = eval (subS x px "open" c p3 p4) X.env)
theorem zOpnApp (h : EP K X e te f) (hb : attributeBase (subS x px "open" c p3 p4) "append" X.env (eval (subS x px "open" c p3 p4) X.env) = eval (subS x px "open" c p3 p4) X.env := by rfl)
    (hfew : (((backTo q (starEach [e] X.env)).all (!·.1) && (backToKw q (keywordEach [] X.env)).all (·.1.isSome)) && decide (([e].length + ([] : List Keyword).length + if ([] : List Keyword).isEmpty = true then 0 else 1) < 30)) = true := by rfl) (hl : (ap.endLine == q.line) = true := by rfl)
    (he : starEach (e :: []) X.env = (false, eval e X.env) :: starEach [] X.env := by rfl) (hpl : (backTo q (starEach [] X.env)).any (·.1) = false := by rfl) (hs : swapsWith (.Call (.Attribute (subS x px "open" c p3 p4) "append" ap) [e] [] q) none qq.line X.env = pure false := by rfl) (hK : X.K = K := by rfl) :
    ES K X (.Expr (.Call (.Attribute (subS x px "open" c p3 p4) "append" ap) [e] [] q) qq) (tDrop (tBM K "list" rAppend (tDGet (tVar i) (tC (.str "open"))) (tCons te tNil))) (sOpnApp i f) := by
  subst hK
  exact ⟨ps_expr (pe_bm PySem.F.plainAttrs_list PySem.F.slot_list_append PySem.F.type_list_append mt_append (pe_dget hu hx pe_str (fun _ _ => rfl)) (pa_cons h.pe pa_nil he) hb hfew hl he hpl) hs, dens_opnapp h.de⟩
theorem zTold (h : EP K X e te f) (hb : attributeBase (subS x px "told" c p3 p4) "append" X.env (eval (subS x px "told" c p3 p4) X.env) = eval (subS x px "told" c p3 p4) X.env := by rfl)
    (hfew : (((backTo q (starEach [e] X.env)).all (!·.1) && (backToKw q (keywordEach [] X.env)).all (·.1.isSome)) && decide (([e].length + ([] : List Keyword).length + if ([] : List Keyword).isEmpty = true then 0 else 1) < 30)) = true := by rfl) (hl : (ap.endLine == q.line) = true := by rfl)
    (he : starEach (e :: []) X.env = (false, eval e X.env) :: starEach [] X.env := by rfl) (hpl : (backTo q (starEach [] X.env)).any (·.1) = false := by rfl) (hs : swapsWith (.Call (.Attribute (subS x px "told" c p3 p4) "append" ap) [e] [] q) none qq.line X.env = pure false := by rfl) (hK : X.K = K := by rfl) :
    ES K X (.Expr (.Call (.Attribute (subS x px "told" c p3 p4) "append" ap) [e] [] q) qq) (tDrop (tBM K "list" rAppend (tDGet (tVar i) (tC (.str "told"))) (tCons te tNil))) (sTold i f) := by
  subst hK
  exact ⟨ps_expr (pe_bm PySem.F.plainAttrs_list PySem.F.slot_list_append PySem.F.type_list_append mt_append (pe_dget hu hx pe_str (fun _ _ => rfl)) (pa_cons h.pe pa_nil he) hb hfew hl he hpl) hs, dens_told h.de⟩
theorem zWorth (h : EN K X e te fn) (hb : attributeBase (subS x px "worth" c p3 p4) "append" X.env (eval (subS x px "worth" c p3 p4) X.env) = eval (subS x px "worth" c p3 p4) X.env := by rfl)
    (hfew : (((backTo q (starEach [e] X.env)).all (!·.1) && (backToKw q (keywordEach [] X.env)).all (·.1.isSome)) && decide (([e].length + ([] : List Keyword).length + if ([] : List Keyword).isEmpty = true then 0 else 1) < 30)) = true := by rfl) (hl : (ap.endLine == q.line) = true := by rfl)
    (he : starEach (e :: []) X.env = (false, eval e X.env) :: starEach [] X.env := by rfl) (hpl : (backTo q (starEach [] X.env)).any (·.1) = false := by rfl) (hs : swapsWith (.Call (.Attribute (subS x px "worth" c p3 p4) "append" ap) [e] [] q) none qq.line X.env = pure false := by rfl) (hK : X.K = K := by rfl) :
    ES K X (.Expr (.Call (.Attribute (subS x px "worth" c p3 p4) "append" ap) [e] [] q) qq) (tDrop (tBM K "list" rAppend (tDGet (tVar i) (tC (.str "worth"))) (tCons te tNil))) (sWorth i fn) := by
  subst hK
  exact ⟨ps_expr (pe_bm PySem.F.plainAttrs_list PySem.F.slot_list_append PySem.F.type_list_append mt_append (pe_dget hu hx pe_str (fun _ _ => rfl)) (pa_cons h.pe pa_nil he) hb hfew hl he hpl) hs, dens_worth h.de⟩
theorem zGivn (h : EN K X e te fn) (hb : attributeBase (subS x px "given" c p3 p4) "extend" X.env (eval (subS x px "given" c p3 p4) X.env) = eval (subS x px "given" c p3 p4) X.env := by rfl)
    (hfew : (((backTo q (starEach [e] X.env)).all (!·.1) && (backToKw q (keywordEach [] X.env)).all (·.1.isSome)) && decide (([e].length + ([] : List Keyword).length + if ([] : List Keyword).isEmpty = true then 0 else 1) < 30)) = true := by rfl) (hl : (ap.endLine == q.line) = true := by rfl)
    (he : starEach (e :: []) X.env = (false, eval e X.env) :: starEach [] X.env := by rfl) (hpl : (backTo q (starEach [] X.env)).any (·.1) = false := by rfl) (hs : swapsWith (.Call (.Attribute (subS x px "given" c p3 p4) "extend" ap) [e] [] q) none qq.line X.env = pure false := by rfl) (hK : X.K = K := by rfl) :
    ES K X (.Expr (.Call (.Attribute (subS x px "given" c p3 p4) "extend" ap) [e] [] q) qq) (tDrop (tBM K "list" rExtend (tDGet (tVar i) (tC (.str "given"))) (tCons te tNil))) (sGivn i fn) := by
  subst hK
  exact ⟨ps_expr (pe_bm PySem.F.plainAttrs_list PySem.F.slot_list_extend PySem.F.type_list_extend mt_extend (pe_dget hu hx pe_str (fun _ _ => rfl)) (pa_cons h.pe pa_nil he) hb hfew hl he hpl) hs, dens_givn h.de⟩
end
end
section
variable {K : PySem.W.Frag} {X : Cx} {x n : Str} {p pos spos px : Pos} {e1 e3 : Expr} {y : Str} {py : Pos} {t1 t3 : TE} {f1 f3 : PL.Env → Option PyData} {k m : Nat} {ps : List Str} {g dm : LS → List PyData → Option LS}
def CalM (P : Program) (w : World) (K : PySem.W.Frag) (mg : Str → Option Value) (base : Heap) (k : Nat) (x : Str) (n i : Nat) (ps : List Str) (g : LS → List PyData → Option LS) : Prop :=
  ∃ (f : Addr) (fd : FuncData), FnOk P w K mg base CX0 k f fd ps (spM K n i g) ∧ mg x = some (.ref f) ∧ PySem.W.keepIn K (.ref f) = true ∧ Binds K fd ps []
def CalF (P : Program) (w : World) (K : PySem.W.Frag) (mg : Str → Option Value) (base : Heap) (k : Nat) (x : Str) : Prop :=
  ∃ (f : Addr) (fd : FuncData), FnOk P w K mg base CX0 k f fd [] (spF K) ∧ mg x = some (.ref f) ∧ PySem.W.keepIn K (.ref f) = true ∧ Binds K fd [] []
theorem zDeed (j : Nat) (C : CalM X.prog X.w K X.mg X.base k n 3 1 ps g) (hg : Deeds g dm) (hr : Room m X.A) (hk : k ≤ m) (h1 : EP K X e1 t1 f1) (hy : PE X (.Name y py) (tVar j)) (h3 : EP K X e3 t3 f3) (hgl : Gl X n := by rfl) (hdb : (n == ("__debug__" : Str)) = false := by decide)
    (s1 : starEach [e1, .Name y py, e3] X.env = (false, eval e1 X.env) :: starEach [.Name y py, e3] X.env := by rfl) (s2 : starEach [.Name y py, e3] X.env = (false, eval (.Name y py) X.env) :: starEach [e3] X.env := by rfl) (s3 : starEach [e3] X.env = (false, eval e3 X.env) :: starEach [] X.env := by rfl)
    (hpl : (backTo pos (starEach [.Name y py, e3] X.env)).any (·.1) = false := by rfl) (hs : swapsWith (.Call (.Name n p) [e1, .Name y py, e3] [] pos) none spos.line X.env = pure false := by rfl) (hK : X.K = K := by rfl) :
    ES K X (.Expr (.Call (.Name n p) [e1, .Name y py, e3] [] pos) spos) (tDrop (tCall (spM K 3 1 g) [] E0 (tCons t1 (tCons (tVar j) (tCons t3 tNil))))) (sDeed j f1 f3 dm) := by
  subst hK
  obtain ⟨f, fd, F, hm, kp, hb⟩ := C
  exact ⟨ps_expr (pe_call F (hr.mono hk) hgl hm kp hb .nil pass0 (pa_cons h1.pe (pa_cons hy (pa_cons h3.pe pa_nil s3) s2) s1) hdb s1 hpl) hs, dens_deed hg h1.de h3.de⟩
end
end PL
namespace PL
open PySem L2 PySem.Spec PyProof.Rows
def eHeldAt (i : Nat) (f : PL.Env → Option PyData) : PL.Env → Option PyData := fun env => match env[i]? with
  | some (.ob (.ls S)) => (f env).bind fun d => match d with
    | .str x => (getA S.held x).map fun n => .int (n : Int)
    | _ => none
  | _ => none
def eWorthAt (i : Nat) (f : PL.Env → Option PyData) (k : Nat) : PL.Env → Option PyData := fun env => match env[i]? with
  | some (.ob (.ls S)) => (f env).bind fun d => match d with
    | .int n => if 0 ≤ n then (S.worth[n.toNat]?).map fun z => .int (if k = 0 then z.1 else z.2) else none
    | _ => none
  | _ => none
def eLenWorth (i : Nat) : PL.Env → Option PyData := fun env => match env[i]? with
  | some (.ob (.ls S)) => some (.int (S.worth.length : Int))
  | _ => none
section
variable {K : PySem.W.Frag} {i : Nat} {te tk : TE} {f g : PL.Env → Option PyData}
theorem den_heldat (h : DenP K tk f) : DenP K (tDGet (tDGet (tVar i) (tC (.str "held"))) tk) (eHeldAt i f) := by
  intro base O0 O σ H env d S e Q q
  unfold eHeldAt at e
  split at e
  · rename_i S0 hi
    cases k1 : f env with
    | none => simp [k1] at e
    | some z =>
      simp only [k1, Option.bind_some] at e
      split at e
      · rename_i x
        cases k2 : getA S0.held x with
        | none => simp [k2] at e
        | some n =>
          simp only [k2, Option.map_some] at e
          cases e
          obtain ⟨p, a1, a2, a3, a4, a5, was, os, hx, h0, nd0, _, _⟩ := S.ls hi
          refine ⟨_, hx, p, _, rfl, (get_open h0.hp).2.1, ?_⟩
          refine h base O0 O σ H env _ S k1 _ fun u H1 x1 ru => ?_
          cases ru
          have hg : valV (S0.held.map fun q => (kS q.1, V.int (q.2 : Int))) (kS x) = some (.int (n : Int)) := by
            have := valV_kvs (f := fun m : Nat => V.int (m : Int)) S0.held x
            unfold kvs at this
            rw [this, k2]
            rfl
          have hd := DGet.k (k := kS x) (x1 _ _ h0.h2)
          rw [hg] at hd
          exact ⟨a2, _, rfl, hd, q _ H1 x1 (.int _)⟩
      · cases e
  · cases e
theorem den_worthat {k : Nat} (hk : k < 2) (h : DenP K tk f) : DenP K (tOp (rIx K) (tOp (rIx K) (tDGet (tVar i) (tC (.str "worth"))) tk) (tC (.int (k : Int)))) (eWorthAt i f k) := by
  intro base O0 O σ H env d S e Q q
  unfold eWorthAt at e
  split at e
  · rename_i S0 hi
    cases k1 : f env with
    | none => simp [k1] at e
    | some z =>
      simp only [k1, Option.bind_some] at e
      split at e
      · rename_i n
        split at e
        case isFalse => cases e
        rename_i hn
        cases k2 : S0.worth[n.toNat]? with
        | none => simp [k2] at e
        | some z =>
          simp only [k2, Option.map_some] at e
          cases e
          obtain ⟨p, a1, a2, a3, a4, a5, was, os, hx, h0, nd0, _, _⟩ := S.ls hi
          refine ⟨_, hx, p, _, rfl, (get_open h0.hp).2.2.1, ?_⟩
          refine h base O0 O σ H env _ S k1 _ fun u H1 x1 ru => ?_
          cases ru
          obtain ⟨a, ha, hav⟩ := h0.hw.at_ k2
          have hz : (n.toNat : Int) = n := by omega
          refine .inl ⟨a3, _, n, .ref a, rfl, rfl, SqL.of (x1 _ _ h0.h3), ?_, ?_⟩
          · rw [← hz]
            refine atI_nat' ?_
            rw [List.getElem?_map, ha]
            rfl
          refine .inl ⟨a, _, (k : Int), .int (if k = 0 then z.1 else z.2), rfl, rfl, SqL.of (x1 _ _ hav), ?_, q _ H1 x1 (.int _)⟩
          match k, hk with
          | 0, _ => rfl
          | 1, _ => rfl
      · cases e
  · cases e
theorem den_lenworth : DenP K (tCB (fun xs H Q => ∃ x n, xs = [x] ∧ LenV K x H n ∧ Q (.int n) H) (tCons (tDGet (tVar i) (tC (.str "worth"))) tNil)) (eLenWorth i) := by
  intro base O0 O σ H env d S e Q q
  unfold eLenWorth at e
  split at e
  · rename_i S0 hi
    cases e
    obtain ⟨p, a1, a2, a3, a4, a5, was, os, hx, h0, nd0, _, _⟩ := S.ls hi
    refine ⟨_, hx, p, _, rfl, (get_open h0.hp).2.2.1, .ref a3, S0.worth.length, rfl, .inl ⟨_, SqL.of h0.h3, ?_⟩, q _ H (PL.Ex.refl H) (.int _)⟩
    rw [List.length_map, h0.hw.len]
  · cases e
end
section
variable {K : PySem.W.Frag} {X : Cx} {x n : Str} {px p3 p4 p5 p6 p pos spos : Pos} {c c2 : Nat} {e2 : Expr} {t2 : TE} {f2 : PL.Env → Option PyData} {k m : Nat}
theorem pHeld (hu : X.A.units + 1 < cLine) (i : Nat) (hx : PE X (.Name x px) (tVar i)) (h : EP K X e2 t2 f2) (hs : NoSl e2 := by exact fun _ _ => rfl) : EP K X (.Subscript (subS x px "held" c p3 p4) e2 p5) (tDGet (tDGet (tVar i) (tC (.str "held"))) t2) (eHeldAt i f2) :=
  ⟨pe_dget hu (pe_dget hu hx pe_str (fun _ _ => rfl)) h.pe hs, den_heldat h.de⟩
theorem pWorth (hu : X.A.units + 1 < cLine) (i k : Nat) (hx : PE X (.Name x px) (tVar i)) (h : EP K X e2 t2 f2) (hk : k < 2 := by decide) (hs : PlainIx e2 := by exact fun _ _ => rfl) (hK : X.K = K := by rfl) : EP K X (.Subscript (.Subscript (subS x px "worth" c p3 p4) e2 p5) (.Constant (.int (k : Int)) c2 p6) pos) (tOp (rIx K) (tOp (rIx K) (tDGet (tVar i) (tC (.str "worth"))) t2) (tC (.int (k : Int)))) (eWorthAt i f2 k) := by
  subst hK
  exact ⟨pe_ix ix_seq (pe_ix ix_seq (pe_dget hu hx pe_str (fun _ _ => rfl)) h.pe hs) pe_int (fun _ _ => rfl), den_worthat hk h.de⟩
theorem pLenW (hu : X.A.units + 1 < cLine) (hm : X.mg "len" = none) (i : Nat) (hx : PE X (.Name x px) (tVar i)) (hg : Gl X "len" := by rfl) (he : starEach [subS x px "worth" c p3 p4] X.env = (false, eval (subS x px "worth" c p3 p4) X.env) :: starEach [] X.env := by rfl) (hpl : (backTo pos (starEach [] X.env)).any (·.1) = false := by rfl) (hK : X.K = K := by rfl) :
    EP K X (.Call (.Name "len" p) [subS x px "worth" c p3 p4] [] pos) (tCB (fun xs H Q => ∃ x n, xs = [x] ∧ LenV K x H n ∧ Q (.int n) H) (tCons (tDGet (tVar i) (tC (.str "worth"))) tNil)) (eLenWorth i) := by
  subst hK
  exact ⟨pe_callB call_len hg hm PySem.boot_len (pa_cons (pe_dget hu hx pe_str (fun _ _ => rfl)) pa_nil he) (by decide) (by decide) he hpl, den_lenworth⟩
theorem upd_none {H : Hp} {p a : Addr} {o : HO} (h : upd H p o a = none) : a ≠ p ∧ H a = none := by
  by_cases e : a = p
  · rw [e, upd_same] at h
    cases h
  · rw [upd_ne e] at h
    exact ⟨e, h⟩
theorem zFresh (i : Nat) (nd : X.N.Nodup) (C : CalF X.prog X.w K X.mg X.base k n) (hr : Room m X.A) (hk : k ≤ m) (hg : Gl X n := by rfl) (hdb : (n == ("__debug__" : Str)) = false := by decide)
    (hN : X.N[i]? = some x := by rfl) (hl : Loc X.env.scope x := by first | exact Or.inl rfl | exact Or.inr rfl) (hf : X.fn x = true ∨ X.env.scope.names.lookup x = some .local := by first | exact Or.inr rfl | exact Or.inl rfl)
    (hs : swapsWithSole [.Name x px] (.Call (.Name n p) [] [] pos) spos.line X.env = pure false := by rfl) (h2 : swappedStores [.Name x px] (.Call (.Name n p) [] [] pos) X.env = pure none := by rfl) (h4 : (assignEach [.Name x px] X.env).map (·.2) = [assign (.Name x px) X.env] := by rfl) (hK : X.K = K := by rfl) :
    ES K X (.Assign [.Name x px] (.Call (.Name n p) [] [] pos) spos) (tAsg (tCall (spF K) [] E0 tNil) (gName i)) (sFresh i) := by
  subst hK
  obtain ⟨f, fd, F, hm, kp, hb⟩ := C
  exact ⟨ps_asg (pe_call0 F (hr.mono hk) hg hm kp hb .nil pass0 hdb) (pg_name nd hN hl hf) hs h2 h4, dens_fresh⟩
/-- the def that makes a new one -/
theorem ok_fresh {P : Program} {w : World} {mg : Str → Option Value} {base : Heap} {qual : Str} {st : Stmt} {f : Addr} {fd : FuncData} {q1 q2 q3 q4 q5 q6 r1 r2 r3 r4 r5 r6 u1 u2 : Pos} {c1 c2 c3 c4 c5 c6 c7 : Nat} (Fu : Fun K x qual st f fd) (S : FnScope [] [] (defScope st))
    (hb : defBody st = [.Return (some (.Dict [some (.Constant (.str "open") c1 q1), some (.Constant (.str "held") c2 q2), some (.Constant (.str "worth") c3 q3), some (.Constant (.str "told") c4 q4), some (.Constant (.str "given") c5 q5), some (.Constant (.str "many") c6 q6)]
      [.List [] r1, .Dict [] [] r2, .List [] r3, .List [] r4, .List [] r5, .Constant (.int 0) c7 r6] u1)) u2]) : FnOk P w K mg base CX0 1 f fd [] (spF K) := by
  refine Fu.ok S (fun vs H Q E h => by rw [h.1]; rfl) (fun cdv A outer s H vs Q E hr h => ?_)
  obtain ⟨rfl, q⟩ := h
  rw [hb]
  refine ⟨_, pss_one (ps_ret (pe_disp (pps_cons pe_str (pe_lst pa_nil) (pps_cons pe_str pe_dnewK (pps_cons pe_str (pe_lst pa_nil) (pps_cons pe_str (pe_lst pa_nil) (pps_cons pe_str (pe_lst pa_nil) (pps_cons pe_str pe_int pps_nil)))))) rfl rfl (fun z => nomatch z) (by show 6 ≤ 15; omega))), ?_⟩
  intro p hp
  refine ⟨by show 0 ≤ _; omega, fun a1 n1 a2 n2 => ?_⟩
  refine ⟨by show 0 ≤ _; omega, fun a3 n3 => ⟨by show 0 ≤ _; omega, fun a4 n4 => ⟨by show 0 ≤ _; omega, fun a5 n5 => ?_⟩⟩⟩
  obtain ⟨m1, z1⟩ := upd_none n1
  obtain ⟨m21, n2⟩ := upd_none n2
  obtain ⟨m2, z2⟩ := upd_none n2
  obtain ⟨m32, n3⟩ := upd_none n3
  obtain ⟨m31, n3⟩ := upd_none n3
  obtain ⟨m3, z3⟩ := upd_none n3
  obtain ⟨m43, n4⟩ := upd_none n4
  obtain ⟨m42, n4⟩ := upd_none n4
  obtain ⟨m41, n4⟩ := upd_none n4
  obtain ⟨m4, z4⟩ := upd_none n4
  obtain ⟨m54, n5⟩ := upd_none n5
  obtain ⟨m53, n5⟩ := upd_none n5
  obtain ⟨m52, n5⟩ := upd_none n5
  obtain ⟨m51, n5⟩ := upd_none n5
  obtain ⟨m5, z5⟩ := upd_none n5
  refine ⟨?_, [(kS "open", .ref a1), (kS "held", .ref a2), (kS "worth", .ref a3), (kS "told", .ref a4), (kS "given", .ref a5), (kS "many", .int 0)], rfl, by show 6 ≤ 15; omega, ?_⟩
  · rw [upd_ne m5.symm, upd_ne m4.symm, upd_ne m3.symm, upd_ne m2.symm, upd_ne m1.symm, upd_same]
  · have hm : mergeK [] [(kS "open", V.ref a1), (kS "held", .ref a2), (kS "worth", .ref a3), (kS "told", .ref a4), (kS "given", .ref a5), (kS "many", .int 0)] = [(kS "open", V.ref a1), (kS "held", .ref a2), (kS "worth", .ref a3), (kS "told", .ref a4), (kS "given", .ref a5), (kS "many", .int 0)] := by
      unfold mergeK
      rw [merge_new _ [] (by show ([kS "open", kS "held", kS "worth", kS "told", kS "given", kS "many"] : List Key).Nodup; decide +kernel)]
      rfl
    rw [hm]
    refine q p a1 a2 a3 a4 a5 _ (fun b o hb => ?_) (fun b m => ?_) ?_ (fun B => ⟨upd_same, ?_, .nil, ?_, ?_, .nil, ?_, ?_, fun q z => nomatch z⟩)
    · have ne : ∀ c, H c = none → b ≠ c := fun c hc => ne_of_none hb hc
      rw [upd_ne (ne p hp), upd_ne (ne a5 z5), upd_ne (ne a4 z4), upd_ne (ne a3 z3), upd_ne (ne a2 z2), upd_ne (ne a1 z1), upd_ne (ne p hp)]
      exact hb
    · unfold lsFp at m
      simp only [List.mem_cons, List.not_mem_nil, or_false] at m
      rcases m with rfl | rfl | rfl | rfl | rfl | rfl <;> assumption
    · unfold lsFp
      simp only [List.nodup_cons, List.mem_cons, List.not_mem_nil, or_false, not_or, not_false_eq_true, List.nodup_nil, and_true]
      exact ⟨⟨m1.symm, m2.symm, m3.symm, m4.symm, m5.symm⟩, ⟨m21.symm, m31.symm, m41.symm, m51.symm⟩, ⟨m32.symm, m42.symm, m52.symm⟩, ⟨m43.symm, m53.symm⟩, m54.symm⟩
    · rw [upd_ne m1, upd_ne m51.symm, upd_ne m41.symm, upd_ne m31.symm, upd_ne m21.symm, upd_same]
    · rw [upd_ne m2, upd_ne m52.symm, upd_ne m42.symm, upd_ne m32.symm, upd_same]
      rfl
    · rw [upd_ne m3, upd_ne m53.symm, upd_ne m43.symm, upd_same]
      rfl
    · rw [upd_ne m4, upd_ne m54.symm, upd_same]
      rfl
    · rw [upd_ne m5, upd_same]
      rfl
end
end PL
/-! The law's own state, read as data. -/
namespace PL
open PySem L2 PySem.Spec PyProof.Rows
theorem lookP_pos {k x : Str} {d : PyData} {r : List (PyData × PyData)} (e : k = x) : lookP ((.str k, d) :: r) x = some d := if_pos e
theorem lookP_neg {k x : Str} {d : PyData} {r : List (PyData × PyData)} (e : ¬ k = x) : lookP ((.str k, d) :: r) x = lookP r x := if_neg e
theorem ls_open (L : LS) : lookP (kvP lsKs (lsPs L)) "open" = some (.list (L.opn.map encQ)) := lookP_pos rfl
theorem ls_held (L : LS) : lookP (kvP lsKs (lsPs L)) "held" = some (heldD L.held) := (lookP_neg (k := "open") (x := "held") (by decide +kernel)).trans (lookP_pos rfl)
theorem ls_worth (L : LS) : lookP (kvP lsKs (lsPs L)) "worth" = some (.list (L.worth.map encN)) := (lookP_neg (k := "open") (x := "worth") (by decide +kernel)).trans ((lookP_neg (k := "held") (x := "worth") (by decide +kernel)).trans (lookP_pos rfl))
theorem held_look (x : Str) : ∀ l : List (Str × Nat), lookP (kvP (l.map (·.1)) (l.map fun q => .int (q.2 : Int))) x = (getA l x).map fun n => .int (n : Int)
  | [] => rfl
  | q :: l => by
    have ih := held_look x l
    show lookP ((.str q.1, .int (q.2 : Int)) :: kvP (l.map (·.1)) (l.map fun q => .int (q.2 : Int))) x = _
    unfold getA at ih ⊢
    by_cases e : q.1 = x
    · rw [lookP_pos e, List.find?_cons_of_pos (by simp [e])]
      rfl
    · rw [lookP_neg e, ih, List.find?_cons_of_neg (by simp [e])]
theorem held_ks : ∀ l : List (Str × Nat), (kvP (l.map (·.1)) (l.map fun q => .int (q.2 : Int))).all isKS = true
  | [] => rfl
  | q :: l => by
    show (isKS (.str q.1, .int (q.2 : Int)) && (kvP (l.map (·.1)) (l.map fun q => .int (q.2 : Int))).all isKS) = true
    rw [held_ks l]
    rfl
section
variable {a b : PL.Env → Option PyData} {env : PL.Env} {L : LS}
theorem te2_ev {g : PyData → PyData → Option PyData} {x y : PyData} {t : Bool} (ha : a env = some x) (hb : b env = some y) (h : g x y = some (.bool t)) : tE (e2 g a b) env = some t := by
  unfold tE e2
  rw [ha, hb, Option.bind_some, Option.bind_some, h]
  rfl
theorem dg_open (h : a env = some (lsD L)) : e2 gDg a (eC (.str "open")) env = some (.list (L.opn.map encQ)) := by
  unfold e2
  rw [h]
  exact ls_open L
theorem dg_held (h : a env = some (lsD L)) : e2 gDg a (eC (.str "held")) env = some (heldD L.held) := by
  unfold e2
  rw [h]
  exact ls_held L
theorem dg_worth (h : a env = some (lsD L)) : e2 gDg a (eC (.str "worth")) env = some (.list (L.worth.map encN)) := by
  unfold e2
  rw [h]
  exact ls_worth L
theorem in_held {neg : Bool} {x : Str} (ha : a env = some (.str x)) (hb : b env = some (heldD L.held)) : tE (e2 (gDin neg) a b) env = some (if neg then !(getA L.held x).isSome else (getA L.held x).isSome) := by
  unfold tE e2
  rw [ha, hb]
  show (if (kvP (L.held.map (·.1)) (L.held.map fun q => .int (q.2 : Int))).all isKS then some (PyData.bool (if neg then !(lookP (kvP (L.held.map (·.1)) (L.held.map fun q => .int (q.2 : Int))) x).isSome else (lookP (kvP (L.held.map (·.1)) (L.held.map fun q => .int (q.2 : Int))) x).isSome)) else none).bind asB = _
  rw [if_pos (held_ks _), held_look]
  cases getA L.held x <;> rfl
theorem at_held {x : Str} {n : Nat} (ha : a env = some (heldD L.held)) (hb : b env = some (.str x)) (h : getA L.held x = some n) : e2 gDg a b env = some (.int (n : Int)) := by
  unfold e2
  rw [ha, hb]
  show lookP (kvP (L.held.map (·.1)) (L.held.map fun q => .int (q.2 : Int))) x = _
  rw [held_look, h]
  rfl
end
end PL
namespace PL
open PySem L2 PySem.Spec PyProof.Rows
section
variable {i : Nat} {env : PL.Env} {L : LS} {f g : PL.Env → Option PyData} {fn : PL.Env → Option (List PyData)}
theorem opnapp_nx {x : Str} {n : Int} (h1 : env[i]? = some (.ob (.ls L))) (h2 : f env = some (.tuple [.str x, .int n])) (h3 : L.opn.length < 100000) : sOpnApp i f env = some (.nx (env.set i (.ob (.ls { L with opn := L.opn ++ [(x, n)] })))) := by
  unfold sOpnApp
  rw [h1]
  show (f env).bind _ = _
  rw [h2]
  exact if_pos h3
theorem many_nx {n : Int} (h1 : env[i]? = some (.ob (.ls L))) (h2 : f env = some (.int n)) : sMany i f env = some (.nx (env.set i (.ob (.ls { L with many := n })))) := by
  unfold sMany
  rw [h1]
  show (f env).bind _ = _
  rw [h2]
  rfl
theorem told_nx {n : Int} (h1 : env[i]? = some (.ob (.ls L))) (h2 : f env = some (.int n)) (h3 : L.told.length < 100000) : sTold i f env = some (.nx (env.set i (.ob (.ls { L with told := L.told ++ [n] })))) := by
  unfold sTold
  rw [h1]
  show (f env).bind _ = _
  rw [h2]
  exact if_pos h3
theorem hold_nx {x : Str} {n : Nat} (h1 : env[i]? = some (.ob (.ls L))) (h2 : f env = some (.str x)) (h3 : g env = some (.int (n : Int))) (h4 : L.held.length < 100000) : sHold i f g env = some (.nx (env.set i (.ob (.ls { L with held := putA L.held x n })))) := by
  unfold sHold
  rw [h1]
  show (g env).bind _ = _
  rw [h3, Option.bind_some, h2, Option.bind_some]
  show (if 0 ≤ (n : Int) ∧ L.held.length < 100000 then some (Out.nx (env.set i (.ob (.ls { L with held := putA L.held x (n : Int).toNat })))) else none) = _
  rw [if_pos ⟨by omega, h4⟩, Int.toNat_natCast]
theorem worth_nx {w h : Int} (h1 : env[i]? = some (.ob (.ls L))) (h2 : fn env = some [.int w, .int h]) (h3 : L.worth.length < 100000) : sWorth i fn env = some (.nx (env.set i (.ob (.ls { L with worth := L.worth ++ [(w, h)] })))) := by
  unfold sWorth
  rw [h1]
  show (fn env).bind _ = _
  rw [h2]
  exact if_pos h3
theorem waug_nx {n : Nat} {m : Int} (h1 : env[i]? = some (.ob (.ls L))) (h2 : f env = some (.int (n : Int))) (h3 : g env = some (.int m)) (h4 : n < L.worth.length) : sWAug i f g env = some (.nx (env.set i (.ob (.ls { L with worth := L.worth.modify n fun q => (q.1 + m, q.2) })))) := by
  unfold sWAug
  rw [h1]
  show (f env).bind _ = _
  rw [h2, Option.bind_some, h3, Option.bind_some]
  show (if 0 ≤ (n : Int) ∧ (n : Int).toNat < L.worth.length then some (Out.nx (env.set i (.ob (.ls { L with worth := L.worth.modify (n : Int).toNat fun q => (q.1 + m, q.2) })))) else none) = _
  rw [Int.toNat_natCast, if_pos ⟨by omega, h4⟩]
theorem givn_nx {ns : List Int} (h1 : env[i]? = some (.ob (.ls L))) (h2 : fn env = some (ns.map PyData.int)) (h3 : L.given.length + ns.length ≤ 100000) : sGivn i fn env = some (.nx (env.set i (.ob (.ls { L with given := L.given ++ ns })))) := by
  unfold sGivn
  rw [h1]
  show (fn env).bind _ = _
  rw [h2, Option.bind_some, show asInts (ns.map PyData.int) = some ns from decL_map (f := asI) (g := PyData.int) (fun _ => rfl) ns]
  exact if_pos h3
theorem opnset_nx {l : List (Str × Int)} (h1 : env[i]? = some (.ob (.ls L))) (h2 : fn env = some (l.map encQ)) : sOpnSet i fn env = some (.nx (env.set i (.ob (.ls { L with opn := l })))) := by
  unfold sOpnSet
  rw [h1]
  show (fn env).bind _ = _
  rw [h2, Option.bind_some, show decL asQ (l.map encQ) = some l from decL_map (f := asQ) (g := encQ) (fun _ => rfl) l]
  rfl
theorem heldat_ev {x : Str} {n : Nat} (h1 : env[i]? = some (.ob (.ls L))) (h2 : f env = some (.str x)) (h3 : getA L.held x = some n) : eHeldAt i f env = some (.int (n : Int)) := by
  unfold eHeldAt
  rw [h1]
  show (f env).bind _ = _
  rw [h2, Option.bind_some]
  show (Option.map (fun n : Int => PyData.int n) (do let a ← getA L.held x; pure (a : Int))) = _
  rw [h3]
  rfl
theorem worthat_ev {n : Nat} {z : Int × Int} (h1 : env[i]? = some (.ob (.ls L))) (h2 : f env = some (.int (n : Int))) (h3 : L.worth[n]? = some z) : eWorthAt i f 0 env = some (.int z.1) := by
  unfold eWorthAt
  rw [h1]
  show (f env).bind _ = _
  rw [h2, Option.bind_some]
  show (if 0 ≤ (n : Int) then (L.worth[(n : Int).toNat]?).map fun z => PyData.int (if 0 = 0 then z.1 else z.2) else none) = _
  rw [if_pos (by omega), Int.toNat_natCast, h3]
  rfl
end
end PL
/-! What the laws share that speaks of no def of theirs. -/
namespace PR
open PySem L2 PySem.Spec PyProof.Rows PL
theorem te2r_ev {a b : PL.Env → Option PyData} {env : PL.Env} {g : PyData → PyData → Option PyData} {x y : PyData} {t : Bool} (ha : a env = some x) (hb : b env = some y) (h : g x y = some (.bool t)) : tE (e2 g a b) env = some t := by
  unfold tE e2
  rw [ha, hb, Option.bind_some, Option.bind_some, h]
  rfl
def callT (t : Int) (n : Nat) : List Nat := (List.range n).map fun (j : Nat) => 97 + ((t + 5 * (j : Int) * (1 + t % 3)) % 26).toNat
def callL (c : Int) (k : Nat) (sg : List Nat) : List Nat :=
  let t := c + 31 * (k : Int) * (c % 2)
  let n := (t / 26 % (9 - (sg.length : Int))).toNat
  let p := if c % 2 = 0 then (c / 4 % ((n : Int) + 1)).toNat else n
  (callT t n).take p ++ sg ++ (callT t n).drop p
theorem letter_at (i : Int) (h0 : 0 ≤ i) (h1 : i < 26) : gIx (.str "abcdefghijklmnopqrstuvwxyz") (.int i) = some (.str ⟨#[97 + i.toNat]⟩) := by
  obtain ⟨n, rfl⟩ := Int.eq_ofNat_of_zero_le h0
  have hn : n < 26 := by omega
  have : ∀ n : Nat, n < 26 → atI (Str.ofString "abcdefghijklmnopqrstuvwxyz").cps.toList ((n : Nat) : Int) = some (97 + ((n : Nat) : Int).toNat) := by decide +kernel
  show (if (Str.ofString "abcdefghijklmnopqrstuvwxyz").length ≤ 100000 then (atI (Str.ofString "abcdefghijklmnopqrstuvwxyz").cps.toList ((n : Nat) : Int)).map fun c => PyData.str ⟨#[c]⟩ else none) = _
  rw [if_pos (by decide +kernel), this n hn]
  rfl
theorem eqs_ev {a b : PL.Env → Option PyData} {env : PL.Env} {n : Str} {w : Option Str} (ha : a env = some (.str n)) (hb : b env = some (optD w)) (h1 : PyData.strOk n = true) (h2 : ∀ x, w = some x → PyData.strOk x = true) : tE (e2 gEq a b) env = some (decide (w = some n)) := by
  unfold tE e2
  rw [ha, hb]
  cases w with
  | none =>
    show (if SeqAt.shaped (.str n) && SeqAt.shaped .none then some (PyData.bool (PyData.eqv (.str n) .none)) else none).bind asB = _
    rw [shaped_str h1, shaped_none]
    rfl
  | some x =>
    show (if SeqAt.shaped (.str n) && SeqAt.shaped (.str x) then some (PyData.bool (PyData.eqv (.str n) (.str x))) else none).bind asB = _
    rw [shaped_str h1, shaped_str (h2 x rfl), eqv_str]
    show some (decide (n = x)) = some (decide (some x = some n))
    congr 1
    exact decide_eq_decide.mpr ⟨fun h => by rw [h], fun h => (Option.some.inj h).symm⟩
theorem all_rev {ps : List (Str × Option Str)} (h : ps.all okP = true) : ps.reverse.all okP = true := by
  rw [List.all_reverse]
  exact h
def manyM (ns : List Int) : Nat := (if ns.getD 0 0 / 4 % 8 = 1 then 12 - ns.getD 0 0 / 32 % 8 else 1 + ns.getD 0 0 % 4).toNat
def nameM (ns : List Int) (k : Nat) : Str := ⟨(callL (ns.getD 1 0 / 3) k [97 + k]).toArray⟩
def pickM (ns : List Int) (k : Nat) : Int := if ns.getD 1 0 % 4 = 3 ∧ 0 < k then (k : Int) - 1 else (ns.getD 1 0 + 7 * (k : Int)) * 48271 % 10007 % ((k : Int) + 1)
def plotM (ns : List Int) (k : Nat) : Str × Option Str := (nameM ns k, if pickM ns k < k then some (nameM ns (pickM ns k).toNat) else none)
def plotsM (ns : List Int) : List (Str × Option Str) := (List.range (manyM ns)).map (plotM ns)
theorem manyM_le (ns : List Int) : 1 ≤ manyM ns ∧ manyM ns ≤ 12 := by
  unfold manyM
  split <;> omega
theorem pickM_nn (ns : List Int) (k : Nat) : 0 ≤ pickM ns k := by
  unfold pickM
  split
  · omega
  · exact Int.emod_nonneg _ (by omega)
theorem abc_at (k : Nat) (h : k < 12) : atI (Str.ofString "abcdefghijkl").cps.toList ((k : Nat) : Int) = some (97 + k) := by
  have : ∀ n : Nat, n < 12 → atI (Str.ofString "abcdefghijkl").cps.toList ((n : Nat) : Int) = some (97 + n) := by decide +kernel
  exact this k h
theorem callT_low {t : Int} {n : Nat} {c : Nat} (h : c ∈ callT t n) : 97 ≤ c ∧ c ≤ 122 := by
  unfold callT at h
  obtain ⟨j, _, rfl⟩ := List.mem_map.mp h
  have h1 := Int.emod_nonneg (t + 5 * (j : Int) * (1 + t % 3)) (show (26 : Int) ≠ 0 by omega)
  have h2 := Int.emod_lt_of_pos (t + 5 * (j : Int) * (1 + t % 3)) (show (0 : Int) < 26 by omega)
  omega
theorem callL_low {c : Int} {k : Nat} {sg : List Nat} (hs : ∀ x ∈ sg, 97 ≤ x ∧ x ≤ 122) : ∀ x ∈ callL c k sg, 97 ≤ x ∧ x ≤ 122 := by
  intro x h
  unfold callL at h
  simp only [List.mem_append] at h
  rcases h with (h | h) | h
  · exact callT_low (List.mem_of_mem_take h)
  · exact hs x h
  · exact callT_low (List.mem_of_mem_drop h)
theorem strOk_of {z : Str} (h : ∀ c ∈ cs z, 97 ≤ c ∧ c ≤ 122) : PyData.strOk z = true := by
  unfold PyData.strOk
  rw [← Array.all_toList, List.all_eq_true]
  intro c m
  have := h c m
  simp
  omega
theorem nameM_ok (ns : List Int) (k : Nat) (hk : k < 26) : PyData.strOk (nameM ns k) = true := strOk_of (callL_low (c := ns.getD 1 0 / 3) (k := k) (sg := [97 + k]) fun x h => by
  rw [List.mem_singleton] at h
  omega)
theorem callL_inj {c : Int} {i j a b : Nat} (h : callL c i [a] = callL c j [b]) : a = b := by
  unfold callL at h
  simp only [List.length_singleton] at h
  by_cases he : c % 2 = 0
  · simp only [he, Int.mul_zero, Int.add_zero, if_pos] at h
    have h1 := List.append_cancel_right h
    exact (List.cons.inj (List.append_cancel_left h1)).1
  · simp only [if_neg he] at h
    have ht : ∀ t n, (callT t n).take n = callT t n ∧ (callT t n).drop n = [] := fun t n => by
      have : (callT t n).length = n := by unfold callT; rw [List.length_map, List.length_range]
      exact ⟨List.take_of_length_le (by omega), List.drop_eq_nil_of_le (by omega)⟩
    rw [(ht _ _).1, (ht _ _).2, (ht _ _).1, (ht _ _).2, List.append_nil, List.append_nil] at h
    have := congrArg List.getLast? h
    rw [List.getLast?_concat, List.getLast?_concat] at this
    exact Option.some.inj this
theorem nameM_inj {ns : List Int} {i j : Nat} (h : nameM ns i = nameM ns j) : i = j := by
  have h1 := congrArg cs h
  have h2 : callL (ns.getD 1 0 / 3) i [97 + i] = callL (ns.getD 1 0 / 3) j [97 + j] := h1
  have := callL_inj h2
  omega
theorem plots_names (ns : List Int) : (plotsM ns).map (·.1) = (List.range (manyM ns)).map (nameM ns) := by
  unfold plotsM
  rw [List.map_map]
  rfl
theorem plots_nodup (ns : List Int) : ((plotsM ns).map (·.1)).Nodup := by
  rw [plots_names]
  have : ∀ l : List Nat, l.Nodup → (l.map (nameM ns)).Nodup := fun l hl => by
    induction l with
    | nil => exact List.nodup_nil
    | cons a r ih =>
      rw [List.nodup_cons] at hl
      rw [List.map_cons, List.nodup_cons]
      exact ⟨fun m => by
        obtain ⟨b, mb, e⟩ := List.mem_map.mp m
        rw [nameM_inj e] at mb
        exact hl.1 mb, ih hl.2⟩
  exact this _ List.nodup_range
theorem plots_ok (ns : List Int) : (plotsM ns).all okP = true := by
  rw [List.all_eq_true]
  intro q m
  unfold plotsM at m
  obtain ⟨i, mi, rfl⟩ := List.mem_map.mp m
  rw [List.mem_range] at mi
  have hm := manyM_le ns
  unfold okP plotM
  rw [Bool.and_eq_true]
  refine ⟨nameM_ok ns i (by omega), ?_⟩
  split
  · rfl
  · rename_i o e
    simp only at e
    split at e
    · cases e
      rename_i hp
      have := pickM_nn ns i
      exact nameM_ok ns _ (by omega)
    · cases e
theorem plots_len (ns : List Int) : (plotsM ns).length = manyM ns := by
  unfold plotsM
  rw [List.length_map, List.length_range]
def chN (ns : List Int) (n i : Nat) : List Str := outGo ((List.range n).map (plotM ns)).reverse (some (nameM ns i))
theorem outGo_none : ∀ l : List (Str × Option Str), outGo l none = []
  | [] => rfl
  | q :: r => by
    show (if (none : Option Str) = some q.1 then _ else outGo r none) = []
    rw [if_neg (by intro z; cases z), outGo_none r]
theorem chN_succ (ns : List Int) (n i : Nat) : chN ns (n + 1) i = if i = n then nameM ns n :: (if pickM ns n < n then chN ns n (pickM ns n).toNat else []) else chN ns n i := by
  unfold chN
  rw [List.range_succ, List.map_append, List.reverse_append]
  show (if some (nameM ns i) = some (plotM ns n).1 then (plotM ns n).1 :: outGo ((List.range n).map (plotM ns)).reverse (plotM ns n).2 else outGo ((List.range n).map (plotM ns)).reverse (some (nameM ns i))) = _
  by_cases h : i = n
  · rw [if_pos (by rw [h]; rfl), if_pos h]
    show nameM ns n :: outGo _ (if pickM ns n < n then some (nameM ns (pickM ns n).toNat) else none) = _
    by_cases hp : pickM ns n < n
    · rw [if_pos hp, if_pos hp]
    · rw [if_neg hp, if_neg hp, outGo_none]
  · rw [if_neg (show ¬ some (nameM ns i) = some (plotM ns n).1 from fun e => h (nameM_inj (Option.some.inj e))), if_neg h]
theorem chN_stab (ns : List Int) (n i : Nat) (hi : i < n) : chN ns n i = chN ns (i + 1) i := by
  induction n with
  | zero => omega
  | succ n ih =>
    by_cases h : i = n
    · rw [h]
    · rw [chN_succ, if_neg h, ih (by omega)]
theorem out_chN (ns : List Int) (i : Nat) : outM (plotsM ns) (nameM ns i) = chN ns (manyM ns) i := rfl
theorem chain_rec (ns : List Int) (i : Nat) (hi : i < manyM ns) : outM (plotsM ns) (nameM ns i) = nameM ns i :: (if pickM ns i < i then outM (plotsM ns) (nameM ns (pickM ns i).toNat) else []) := by
  rw [out_chN, chN_stab ns _ i hi, chN_succ, if_pos rfl]
  congr 1
  by_cases hp : pickM ns i < i
  · rw [if_pos hp, if_pos hp, out_chN]
    have := pickM_nn ns i
    rw [chN_stab ns i _ (by omega), chN_stab ns (manyM ns) _ (by omega)]
  · rw [if_neg hp, if_neg hp]
theorem chain_root (ns : List Int) : ∀ i : Nat, i < manyM ns → ∃ j, j < manyM ns ∧ nameM ns j ∈ outM (plotsM ns) (nameM ns i) ∧ ¬ pickM ns j < j := by
  intro i
  induction i using Nat.strongRecOn with
  | ind i ih =>
    intro hi
    rw [chain_rec ns i hi]
    by_cases hp : pickM ns i < i
    · have hn := pickM_nn ns i
      obtain ⟨j, h1, h2, h3⟩ := ih (pickM ns i).toNat (by omega) (by omega)
      exact ⟨j, h1, by rw [if_pos hp]; exact List.mem_cons_of_mem _ h2, h3⟩
    · exact ⟨i, hi, List.mem_cons_self .., hp⟩
def rowD : PL.Row → List PyData
  | .open_ p => [.str "open", .str p]
  | .lay n p z => [.str "lay", .str n, .str p, .int z]
  | .copy n o p => [.str "copy", .str n, .str o, .str p]
  | .same n o => [.str "same", .str n, .str o]
  | .add n o => [.str "add", .str n, .str o]
  | .tell n => [.str "tell", .str n]
  | .give p => [.str "give", .str p]
  | .fork k => [.str "fork", .int k]
  | .go k => [.str "go", .int k]
  | .end_ => [.str "end"]
theorem encR_rowD (r : PL.Row) : encR r = .tuple (rowD r) := by cases r <;> rfl
def wordR : PL.Row → Str
  | .open_ _ => "open" | .lay .. => "lay" | .copy .. => "copy" | .same .. => "same" | .add .. => "add" | .tell _ => "tell" | .give _ => "give" | .fork _ => "fork" | .go _ => "go" | .end_ => "end"
theorem wordR_ok : ∀ r : PL.Row, PyData.strOk (wordR r) = true
  | .open_ _ => (by decide +kernel : PyData.strOk "open" = true)
  | .lay .. => (by decide +kernel : PyData.strOk "lay" = true)
  | .copy .. => (by decide +kernel : PyData.strOk "copy" = true)
  | .same .. => (by decide +kernel : PyData.strOk "same" = true)
  | .add .. => (by decide +kernel : PyData.strOk "add" = true)
  | .tell _ => (by decide +kernel : PyData.strOk "tell" = true)
  | .give _ => (by decide +kernel : PyData.strOk "give" = true)
  | .fork _ => (by decide +kernel : PyData.strOk "fork" = true)
  | .go _ => (by decide +kernel : PyData.strOk "go" = true)
  | .end_ => (by decide +kernel : PyData.strOk "end" = true)
def textsR : PL.Row → List Str
  | .open_ p => [p] | .lay n p _ => [n, p] | .copy n o p => [n, o, p] | .same n o => [n, o] | .add n o => [n, o] | .tell n => [n] | .give p => [p] | _ => []
theorem eqz_ev {a b : PL.Env → Option PyData} {env : PL.Env} {w z : Str} (ha : a env = some (.str w)) (hb : b env = some (.str z)) (hw : PyData.strOk w = true) (hz : PyData.strOk z = true) : tE (e2 gEq a b) env = some (decide (w = z)) := by
  refine te2r_ev ha hb ?_
  show (if SeqAt.shaped (.str w) && SeqAt.shaped (.str z) then some (PyData.bool (PyData.eqv (.str w) (.str z))) else none) = _
  rw [shaped_str hw, shaped_str hz, eqv_str]
  rfl
theorem nez_ev {a b : PL.Env → Option PyData} {env : PL.Env} {w z : Str} (ha : a env = some (.str w)) (hb : b env = some (.str z)) (hw : PyData.strOk w = true) (hz : PyData.strOk z = true) : tE (e2 gNe a b) env = some (!decide (w = z)) := by
  refine te2r_ev ha hb ?_
  show (if SeqAt.shaped (.str w) && SeqAt.shaped (.str z) then some (PyData.bool (!PyData.eqv (.str w) (.str z))) else none) = _
  rw [shaped_str hw, shaped_str hz, eqv_str]
  rfl
theorem in_strs {neg : Bool} {x : Str} {l : List Str} (hx : PyData.strOk x = true) (hl : ∀ y ∈ l, PyData.strOk y = true) : gInL neg (.str x) (.list (l.map PyData.str)) = some (.bool (if neg then !decide (x ∈ l) else decide (x ∈ l))) := by
  unfold gInL
  have h1 : SeqAt.shaped (.list (l.map PyData.str)) = true := (fit_list (n := 0) fun d m => by
    obtain ⟨y, my, rfl⟩ := List.mem_map.mp m
    exact fit_str 0 (hl y my)).sh (by omega)
  show (if SeqAt.shaped (.str x) && SeqAt.shaped (.list (l.map PyData.str)) then some (PyData.bool (if neg then !(l.map PyData.str).any fun z => PyData.eqv z (.str x) else (l.map PyData.str).any fun z => PyData.eqv z (.str x))) else none) = _
  rw [shaped_str hx, h1]
  have h2 : ((l.map PyData.str).any fun z => PyData.eqv z (.str x)) = decide (x ∈ l) := by
    rw [List.any_map, Bool.eq_iff_iff, List.any_eq_true, decide_eq_true_eq]
    constructor
    · rintro ⟨y, my, e⟩
      have e' : PyData.eqv (.str y) (.str x) = true := e
      rw [eqv_str] at e'
      rw [← of_decide_eq_true e']
      exact my
    · intro m
      refine ⟨x, m, ?_⟩
      show PyData.eqv (.str x) (.str x) = true
      rw [eqv_str]
      simp
  rw [h2]
  rfl
theorem ins_ev {neg : Bool} {a b : PL.Env → Option PyData} {env : PL.Env} {x : Str} {l : List Str} (ha : a env = some (.str x)) (hb : b env = some (.list (l.map PyData.str))) (hx : PyData.strOk x = true) (hl : ∀ y ∈ l, PyData.strOk y = true) : tE (e2 (gInL neg) a b) env = some (if neg then !decide (x ∈ l) else decide (x ∈ l)) := by
  unfold tE e2
  rw [ha, hb, Option.bind_some, Option.bind_some, in_strs hx hl]
  rfl
theorem ret_seq {t : PL.Env → Option Bool} {d : PyData} {R : PL.Env → Option Out} {env : PL.Env} {b : Bool} (h : t env = some b) : sSeq (sIf t (sRet (eC d)) sNext) R env = if b then some (.rt d) else R env := by
  rw [if_seq h]
  cases b <;> rfl
theorem callN2_ev {f : List PyData → Option (List PyData)} {a b : PL.Env → Option PyData} {env : PL.Env} {x y : PyData} {ds : List PyData} (ha : a env = some x) (hb : b env = some y) (h : f [x, y] = some ds) : eL (fun env => ((aCons a (aCons b aNil)) env).bind fun ds => if ds.length = 2 then f ds else none) env = some (.list ds) := by
  show Option.map PyData.list (((a env).bind fun d => ((b env).bind fun d2 => some [d2]).bind fun ds => some (d :: ds)).bind fun ds => if ds.length = 2 then f ds else none) = _
  rw [ha, hb]
  show (f [x, y]).map PyData.list = _
  rw [h]
  rfl
theorem eif_ev {t : PL.Env → Option Bool} {a b : PL.Env → Option PyData} {env : PL.Env} {d : PyData} {k : Bool} (ht : t env = some k) (ha : k = true → a env = some d) (hb : k = false → b env = some d) : eIf t a b env = some d := by
  unfold eIf
  rw [ht, Option.bind_some]
  cases k with
  | true => exact ha rfl
  | false => exact hb rfl
theorem eL_ev {f : PL.Env → Option (List PyData)} {env : PL.Env} {xs : List PyData} (h : f env = some xs) : eL f env = some (.list xs) := by
  unfold eL
  rw [h]
  rfl
theorem lrev_ev {a : PL.Env → Option PyData} {env : PL.Env} {xs : List PyData} (h : a env = some (.list xs)) : eL (nRev a) env = some (.list xs.reverse) := by
  unfold eL nRev
  rw [h]
  rfl
theorem inV_strs (x : Str) (l : List Str) : inV (.str x) (l.map V.str) = decide (x ∈ l) := by
  unfold inV
  rw [List.any_map, Bool.eq_iff_iff, List.any_eq_true]
  simp only [decide_eq_true_eq, Function.comp]
  constructor
  · rintro ⟨y, m, e⟩
    have : y = x := by
      have e' : (y == x) = true := e
      exact beq_iff_eq.mp e'
    rw [← this]
    exact m
  · intro m
    exact ⟨x, m, beq_iff_eq.mpr rfl⟩
theorem lenl_ev {f : PL.Env → Option PyData} {env : PL.Env} {ds : List PyData} (h : f env = some (.list ds)) : eA gLen (aCons f aNil) env = some (.int (ds.length : Int)) := by
  unfold eA aCons aNil
  rw [h]
  rfl
theorem tup_ev {f : PL.Env → Option (List PyData)} {env : PL.Env} {ds : List PyData} (h : f env = some ds) (hl : ds.length ≤ 100000) : eTup f env = some (.tuple ds) := by
  unfold eTup short
  rw [h, Option.bind_some, if_pos hl]
  rfl
theorem lst_ev {f : PL.Env → Option (List PyData)} {env : PL.Env} {ds : List PyData} (h : f env = some ds) (hl : ds.length ≤ 100000) : eL (nLst f) env = some (.list ds) := by
  unfold eL nLst short
  rw [h, Option.bind_some, if_pos hl]
  rfl
theorem acons_ev {f : PL.Env → Option PyData} {g : PL.Env → Option (List PyData)} {env : PL.Env} {d : PyData} {ds : List PyData} (h : f env = some d) (h2 : g env = some ds) : aCons f g env = some (d :: ds) := by
  unfold aCons
  rw [h, Option.bind_some, h2]
  rfl
theorem anil_ev {env : PL.Env} : aNil env = some [] := rfl
def moreM (c : Int) : Int := (c / 10 * 48271 + 11) % 1000003
def pickS (l : List Str) (i : Int) : Str := l.getD (i % l.length).toNat ""
def rowM (ps : List (Str × Option Str)) (nms : List Str) (c sz : Int) : PL.Row :=
  match (c % 10).toNat with
  | 0 => .open_ (pickS (ps.map (·.1)) (moreM c / 61))
  | 1 => .lay (pickS nms (moreM c)) (pickS (ps.map (·.1)) (moreM c / 61)) (if moreM c % 4 = 1 then c / 10 % 2000000000000000001 - 1000000000000000000 else c / 10 % 19 - 9)
  | 2 => .copy (pickS nms (moreM c)) (pickS nms (moreM c / 7)) (pickS (ps.map (·.1)) (moreM c / 61))
  | 3 => .same (pickS nms (moreM c)) (pickS nms (moreM c / 7))
  | 4 => .add (pickS nms (moreM c)) (pickS nms (moreM c / 7))
  | 5 => .tell (pickS nms (moreM c))
  | 6 => .give (pickS (ps.map (·.1)) (moreM c / 61))
  | 7 => .fork (moreM c / 1013 % (sz + 1))
  | 8 => .go (moreM c / 1013 % (sz + 1))
  | _ => .end_
theorem pickS_mem {l : List Str} {i : Int} (h : 0 < l.length) : pickS l i ∈ l := by
  unfold pickS
  have h1 := Int.emod_nonneg i (show (l.length : Int) ≠ 0 by omega)
  have h2 := Int.emod_lt_of_pos i (show (0 : Int) < l.length by omega)
  rw [List.getD_eq_getElem?_getD, List.getElem?_eq_getElem (by omega)]
  exact List.getElem_mem _
theorem pickS_at {α : Type} {l : List α} {i : Int} {g : α → Str} (h : 0 < l.length) : ∃ q ∈ l, atI l (i % l.length) = some q ∧ g q = pickS (l.map g) i := by
  have h1 := Int.emod_nonneg i (show (l.length : Int) ≠ 0 by omega)
  have h2 := Int.emod_lt_of_pos i (show (0 : Int) < l.length by omega)
  obtain ⟨n, hn⟩ := Int.eq_ofNat_of_zero_le h1
  have hlt : n < l.length := by omega
  refine ⟨l[n], List.getElem_mem _, ?_, ?_⟩
  · rw [hn]
    exact atI_nat' (List.getElem?_eq_getElem hlt)
  · unfold pickS
    rw [List.length_map, hn, Int.toNat_natCast, List.getD_eq_getElem?_getD, List.getElem?_map, List.getElem?_eq_getElem hlt]
    rfl
theorem pick_ev {a b : PL.Env → Option PyData} {env : PL.Env} {l : List Str} {i : Int} (ha : a env = some (.list (l.map PyData.str))) (hb : b env = some (.int i)) (h : 0 < l.length) : e2 gIx a (e2 (gIC cMod (· % ·)) b (eA gLen (aCons a aNil))) env = some (.str (pickS l i)) := by
  refine ix_ev ha (mod_ev hb (lenl_ev ha) (by rw [List.length_map]; omega)) ?_
  obtain ⟨q, m, e, g⟩ := pickS_at (i := i) (g := fun x => x) h
  rw [List.length_map]
  have h1 := Int.emod_nonneg i (show (l.length : Int) ≠ 0 by omega)
  obtain ⟨n, hn⟩ := Int.eq_ofNat_of_zero_le h1
  have h2 := Int.emod_lt_of_pos i (show (0 : Int) < l.length by omega)
  rw [hn]
  refine atI_nat' ?_
  rw [List.getElem?_map]
  unfold pickS
  rw [hn, Int.toNat_natCast, List.getD_eq_getElem?_getD, List.getElem?_eq_getElem (by omega)]
  rfl
theorem pickp_ev {a b : PL.Env → Option PyData} {env : PL.Env} {l : List (Str × Option Str)} {i : Int} (ha : a env = some (encPs l)) (hb : b env = some (.int i)) (h : 0 < l.length) : e2 gIx (e2 gIx a (e2 (gIC cMod (· % ·)) b (eA gLen (aCons a aNil)))) (eC (.int 0)) env = some (.str (pickS (l.map (·.1)) i)) := by
  have h1 := Int.emod_nonneg i (show (l.length : Int) ≠ 0 by omega)
  obtain ⟨n, hn⟩ := Int.eq_ofNat_of_zero_le h1
  have h2 := Int.emod_lt_of_pos i (show (0 : Int) < l.length by omega)
  have hlt : n < l.length := by omega
  have hp : pickS (l.map (·.1)) i = l[n].1 := by
    unfold pickS
    rw [List.length_map, hn, Int.toNat_natCast, List.getD_eq_getElem?_getD, List.getElem?_map, List.getElem?_eq_getElem hlt]
    rfl
  refine ixt_ev (ds := [.str l[n].1, optD l[n].2]) (i := 0) (ix_ev (ds := l.map encP) ha (mod_ev hb (lenl_ev (ds := l.map encP) ha) (by rw [List.length_map]; omega)) ?_) rfl ?_
  · rw [List.length_map, hn]
    refine atI_nat' ?_
    rw [List.getElem?_map, List.getElem?_eq_getElem hlt]
    rfl
  · rw [hp]
    rfl
def nmanyM (c : Int) : Nat := (if c / 5 % 16 = 3 then 60 else 1 + c % 5).toNat
def nmM (c : Int) (k : Nat) : Str := ⟨(callL (c / 80) k [97 + k / 26, 122 - k % 26]).toArray⟩
def namesM (ns : List Int) : List Str := if ns.getD 2 0 / 5 % 4 = 1 then ((plotsM ns).map (·.1)).take (nmanyM (ns.getD 2 0)) else (List.range (nmanyM (ns.getD 2 0))).map (nmM (ns.getD 2 0))
theorem nmany_le (c : Int) : 1 ≤ nmanyM c ∧ nmanyM c ≤ 60 := by
  unfold nmanyM
  split <;> omega
theorem names_len (ns : List Int) : 1 ≤ (namesM ns).length ∧ (namesM ns).length ≤ 60 := by
  have h := nmany_le (ns.getD 2 0)
  have h2 := manyM_le ns
  unfold namesM
  split
  · rw [List.length_take, List.length_map, plots_len]
    omega
  · rw [List.length_map, List.length_range]
    omega
theorem names_ok (ns : List Int) : ∀ x ∈ namesM ns, PyData.strOk x = true := by
  intro x m
  have h := nmany_le (ns.getD 2 0)
  unfold namesM at m
  split at m
  · obtain ⟨q, mq, rfl⟩ := List.mem_map.mp (List.mem_of_mem_take m)
    have := List.all_eq_true.mp (plots_ok ns) q mq
    unfold okP at this
    rw [Bool.and_eq_true] at this
    exact this.1
  · obtain ⟨k, mk, rfl⟩ := List.mem_map.mp m
    rw [List.mem_range] at mk
    refine strOk_of (callL_low (c := ns.getD 2 0 / 80) (k := k) (sg := [97 + k / 26, 122 - k % 26]) fun x h => ?_)
    simp only [List.mem_cons, List.not_mem_nil, or_false] at h
    omega
theorem abc3_at (k : Nat) (h : k < 3) : atI (Str.ofString "abc").cps.toList ((k : Nat) : Int) = some (97 + k) := by
  have : ∀ n : Nat, n < 3 → atI (Str.ofString "abc").cps.toList ((n : Nat) : Int) = some (97 + n) := by decide +kernel
  exact this k h
theorem zyx_at (k : Nat) (h : k < 26) : atI (Str.ofString "zyxwvutsrqponmlkjihgfedcba").cps.toList ((k : Nat) : Int) = some (122 - k) := by
  have : ∀ n : Nat, n < 26 → atI (Str.ofString "zyxwvutsrqponmlkjihgfedcba").cps.toList ((n : Nat) : Int) = some (122 - n) := by decide +kernel
  exact this k h
theorem cutD_to (ds : List PyData) (k : Nat) : PL.cutD ds none (some (k : Int)) = ds.take k := by
  unfold PL.cutD
  have h0 : HT.sIx ds.length 0 none = 0 := rfl
  rw [h0, List.drop_zero, Nat.sub_zero]
  have : HT.sIx ds.length ds.length (some (k : Int)) = min k ds.length := by
    unfold HT.sIx
    simp only
    split <;> omega
  rw [this, Nat.min_comm, List.take_eq_take_iff]
  omega
theorem strix_ev {a b : PL.Env → Option PyData} {env : PL.Env} {z : Str} {i : Int} {c : Nat} (ha : a env = some (.str z)) (hb : b env = some (.int i)) (hl : z.length ≤ 100000) (h : atI z.cps.toList i = some c) : e2 gIx a b env = some (.str ⟨#[c]⟩) := by
  unfold e2
  rw [ha, hb]
  show (if z.length ≤ 100000 then (atI z.cps.toList i).map fun c => PyData.str ⟨#[c]⟩ else none) = _
  rw [if_pos hl, h]
  rfl
theorem cutD_from (ds : List PyData) (k : Nat) : PL.cutD ds (some (k : Int)) none = ds.drop k := by
  unfold PL.cutD
  rw [HT.sIx_none, HT.sIx_nat]
  by_cases h : k ≤ ds.length
  · rw [Nat.min_eq_left h, List.take_of_length_le]
    rw [List.length_drop]
    exact Nat.le_refl _
  · rw [Nat.min_eq_right (by omega), Nat.sub_self, List.take_zero, List.drop_eq_nil_of_le (by omega)]
theorem flat_strs : ∀ l : List Str, flatDs (l.map PyData.str) = some (l.map V.str)
  | [] => rfl
  | x :: l => by
    show (flatDs (l.map PyData.str)).map _ = _
    rw [flat_strs l]
    rfl
theorem int_ev {neg : Bool} {a b : PL.Env → Option PyData} {env : PL.Env} {x : Str} {l : List Str} (ha : a env = some (.str x)) (hb : b env = some (.tuple (l.map PyData.str))) : tE (e2 (gInT neg) a b) env = some (if neg then !decide (x ∈ l) else decide (x ∈ l)) := by
  refine te2r_ev ha hb ?_
  show (flatDs (l.map PyData.str)).bind (fun vs => some (PyData.bool (if neg then !inV (V.str x) vs else inV (V.str x) vs))) = _
  rw [flat_strs, Option.bind_some, inV_strs]
theorem word_ev {a : PL.Env → Option PyData} {env : PL.Env} {r : PL.Row} (h : a env = some (encR r)) : e2 gIx a (eC (.int 0)) env = some (.str (wordR r)) := by
  rw [encR_rowD] at h
  exact ixt_ev (i := 0) h rfl (by cases r <;> rfl)
theorem row_texts {ps : List (Str × Option Str)} {nms : List Str} (h1 : 0 < ps.length) (h2 : 0 < nms.length) (hp : ps.all okP = true) (hn : ∀ x ∈ nms, PyData.strOk x = true) (c sz : Int) : ∀ x ∈ textsR (rowM ps nms c sz), PyData.strOk x = true := by
  have hn' : ∀ i, PyData.strOk (pickS nms i) = true := fun i => hn _ (pickS_mem h2)
  have hp' : ∀ i, PyData.strOk (pickS (ps.map (·.1)) i) = true := fun i => by
    obtain ⟨q, mq, e⟩ := List.mem_map.mp (pickS_mem (l := ps.map (·.1)) (i := i) (by rw [List.length_map]; exact h1))
    rw [← e]
    have := List.all_eq_true.mp hp q mq
    unfold okP at this
    rw [Bool.and_eq_true] at this
    exact this.1
  unfold rowM
  split <;> (intro x m; simp only [textsR, List.mem_cons, List.not_mem_nil, or_false] at m)
  all_goals first | (rcases m with rfl | rfl | rfl <;> first | exact hn' _ | exact hp' _) | (rcases m with rfl | rfl <;> first | exact hn' _ | exact hp' _) | (subst m; first | exact hn' _ | exact hp' _) | exact absurd m (by simp)
theorem get_of_mem' {α : Type} {os : List (Str × α)} {q : Str × α} (nd : (os.map (·.1)).Nodup) (m : q ∈ os) : getA os q.1 = some q.2 := by
  induction os with
  | nil => cases m
  | cons r t ih =>
    rw [List.map_cons, List.nodup_cons] at nd
    unfold getA at ih ⊢
    rcases List.mem_cons.mp m with e | m
    · rw [← e, List.find?_cons_of_pos (by simp)]
      rfl
    · have ne : ¬ r.1 = q.1 := fun e => nd.1 (e ▸ List.mem_map_of_mem m)
      rw [List.find?_cons_of_neg (by simp [ne])]
      exact ih nd.2 m
theorem mem_of_get {α : Type} {os : List (Str × α)} {x : Str} {v : α} (h : getA os x = some v) : (x, v) ∈ os := by
  unfold getA at h
  obtain ⟨q, hq, rfl⟩ := Option.map_eq_some_iff.mp h
  have m := List.mem_of_find?_eq_some hq
  have e := List.find?_some hq
  rw [← of_decide_eq_true e]
  exact m
theorem kb1 : kitB "int" "int" = some true := by decide +kernel
theorem kb2 : kitB "int" "bool" = some false := by decide +kernel
theorem kb3 : kitB "str" "str" = some true := by decide +kernel
theorem kb4 : kitB "list" "list" = some true := by decide +kernel
theorem ne_same {a b : PL.Env → Option PyData} {env : PL.Env} {d : PyData} (ha : a env = some d) (hb : b env = some d) (hf : SeqAt.shaped d = true) (hr : PyData.eqv d d = true) : tE (e2 gNe a b) env = some false := by
  unfold tE e2
  rw [ha, hb]
  show (if SeqAt.shaped d && SeqAt.shaped d then some (PyData.bool (!PyData.eqv d d)) else none).bind asB = _
  rw [hf, hr]
  rfl
theorem eqv_ints : ∀ l : List Int, PyData.eqv (.list (l.map PyData.int)) (.list (l.map PyData.int)) = true
  | [] => rfl
  | a :: l => by
    show (PyData.eqv (.int a) (.int a) && PyData.eqvAll (l.map PyData.int) (l.map PyData.int)) = true
    have := eqv_ints l
    have h2 : PyData.eqvAll (l.map PyData.int) (l.map PyData.int) = true := this
    rw [h2, eqv_int]
    simp
theorem fit_ints (l : List Int) : Fit 1 (.list (l.map PyData.int)) := fit_list fun d m => by
  obtain ⟨z, _, rfl⟩ := List.mem_map.mp m
  exact fit_int 0 z
theorem isi_ev {a : PL.Env → Option PyData} {env : PL.Env} {d : PyData} {n : String} {b : Bool} (ha : a env = some d) (h : gIsi n d = some (.bool b)) : tE (e1 (gIsi n) a) env = some b := by
  unfold tE e1
  rw [ha, Option.bind_some, h]
  rfl
theorem isi_str (z : Str) : gIsi "str" (.str z) = some (.bool true) := by
  show (kitB "str" "str").map PyData.bool = _
  rw [kb3]
  rfl
theorem isi_list (l : List PyData) : gIsi "list" (.list l) = some (.bool true) := by
  show (kitB "list" "list").map PyData.bool = _
  rw [kb4]
  rfl
theorem tN_ev {t : PL.Env → Option Bool} {env : PL.Env} {b : Bool} (h : t env = some b) : tN t env = some (!b) := by
  unfold tN
  rw [h]
  rfl
theorem six_ev {env : PL.Env} {ns : List Int} (h : env[0]? = some (.sh (scrD (ns.map PyData.int)))) : nSl (eVarO 0) (oSome (eC (.int 6))) oNone env = some ((ns.drop 6).map PyData.int) := by
  have h1 : eVarO 0 env = some (scrD (ns.map PyData.int)) := by
    unfold eVarO
    rw [h]
  unfold nSl
  rw [h1]
  show some (PL.cutD (ns.map PyData.int) (some ((6 : Nat) : Int)) none) = _
  rw [cutD_from, List.map_drop]
theorem callN1_ev {f : List PyData → Option (List PyData)} {a : PL.Env → Option PyData} {env : PL.Env} {x : PyData} {ds : List PyData} (ha : a env = some x) (h : f [x] = some ds) : eL (fun env => ((aCons a aNil) env).bind fun ds => if ds.length = 1 then f ds else none) env = some (.list ds) := by
  show Option.map PyData.list (((a env).bind fun d => some [d]).bind fun ds => if ds.length = 1 then f ds else none) = _
  rw [ha]
  show (f [x]).map PyData.list = _
  rw [h]
  rfl
theorem same_ev {a b : PL.Env → Option PyData} {env : PL.Env} {d : PyData} (ha : a env = some d) (hb : b env = some d) (hf : SeqAt.shaped d = true) (hr : PyData.eqv d d = true) : e2 gEq a b env = some (.bool true) := by
  unfold e2
  rw [ha, hb]
  show (if SeqAt.shaped d && SeqAt.shaped d then some (PyData.bool (PyData.eqv d d)) else none) = _
  rw [hf, hr]
  rfl
theorem call4_ev {f : List PyData → Option PyData} {a b c d : PL.Env → Option PyData} {env : PL.Env} {x y u v z : PyData} (ha : a env = some x) (hb : b env = some y) (hc : c env = some u) (hd : d env = some v) (h : f [x, y, u, v] = some z) : eA (fun ds => if ds.length = 4 then f ds else none) (aCons a (aCons b (aCons c (aCons d aNil)))) env = some z := by
  unfold eA
  rw [acons_ev ha (acons_ev hb (acons_ev hc (acons_ev hd anil_ev)))]
  exact h
theorem ext_nx {i : Nat} {f : PL.Env → Option PyData} {env : PL.Env} {ds es : List PyData} (h1 : env[i]? = some (.own ds)) (h2 : f env = some (.list es)) (h3 : ds.length + es.length ≤ 100000) : sExt i f env = some (.nx (env.set i (.own (ds ++ es)))) := by
  unfold sExt
  rw [h1]
  show (f env).bind _ = _
  rw [h2]
  show (if ds.length + es.length ≤ 100000 then _ else none) = _
  rw [if_pos h3]
theorem free_ev {i : Nat} {F : PL.Env → Option Out} {env : PL.Env} {ds : List PyData} (h : env[i]? = some (.own ds)) : sFree i F env = F (env.set i (.sh (.list ds))) := by
  unfold sFree frE
  rw [h]
  rfl
theorem own_nx {f : PL.Env → Option (List PyData)} {i : Nat} {env : PL.Env} {ds : List PyData} (h : f env = some ds) : sOwn f i env = some (.nx (env.set i (.own ds))) := by
  unfold sOwn
  rw [h]
  rfl
theorem and_ev {a b : PL.Env → Option PyData} {env : PL.Env} {d : PyData} (ha : a env = some (.bool true)) (hb : b env = some d) : eAndB a b env = some d := by
  unfold eAndB tE
  rw [ha]
  exact hb
theorem fit_p {q : Str × Option Str} (h : okP q = true) : Fit 1 (encP q) := by
  obtain ⟨n, o⟩ := q
  unfold okP at h
  rw [Bool.and_eq_true] at h
  refine fit_tup (n := 0) fun e me => ?_
  simp only [List.mem_cons, List.not_mem_nil, or_false] at me
  rcases me with rfl | rfl
  · exact fit_str 0 h.1
  · cases o with
    | none => exact fit_none 0
    | some x => exact fit_str 0 h.2
theorem eqv_p (q : Str × Option Str) : PyData.eqv (encP q) (encP q) = true := by
  obtain ⟨n, o⟩ := q
  show (PyData.eqv (.str n) (.str n) && (PyData.eqv (optD o) (optD o) && true)) = true
  cases o with
  | none =>
    rw [eqv_str]
    simp
    rfl
  | some x =>
    show (PyData.eqv (.str n) (.str n) && (PyData.eqv (.str x) (.str x) && true)) = true
    rw [eqv_str, eqv_str]
    simp
theorem eqv_ps : ∀ l : List (Str × Option Str), PyData.eqvAll (l.map encP) (l.map encP) = true
  | [] => rfl
  | q :: l => by
    show (PyData.eqv (encP q) (encP q) && PyData.eqvAll (l.map encP) (l.map encP)) = true
    rw [eqv_p, eqv_ps l]
    rfl
theorem fit_ps {l : List (Str × Option Str)} (h : l.all okP = true) : Fit 2 (encPs l) := fit_list fun d m => by
  obtain ⟨q, mq, rfl⟩ := List.mem_map.mp m
  exact fit_p (List.all_eq_true.mp h q mq)
end PR
/-! The rows that a script tells; rows as data. -/
namespace PR
open PySem L2 PySem.Spec PyProof.Rows PL
theorem kb5 : kitB "tuple" "tuple" = some true := by decide +kernel
theorem isi_tuple (l : List PyData) : gIsi "tuple" (.tuple l) = some (.bool true) := by
  show (kitB "tuple" "tuple").map PyData.bool = _
  rw [kb5]
  rfl
theorem eqv_all {α : Type} {f : α → PyData} (h : ∀ a, PyData.eqv (f a) (f a) = true) : ∀ l : List α, PyData.eqvAll (l.map f) (l.map f) = true
  | [] => rfl
  | a :: l => by
    show (PyData.eqv (f a) (f a) && PyData.eqvAll (l.map f) (l.map f)) = true
    rw [h, eqv_all h l]
    rfl
theorem eqv_s (x : Str) : PyData.eqv (.str x) (.str x) = true := by rw [eqv_str]; simp
theorem eqv_i (x : Int) : PyData.eqv (.int x) (.int x) = true := by rw [eqv_int]; simp
theorem eqv_row (r : PL.Row) : PyData.eqv (encR r) (encR r) = true := by
  have two : ∀ a b : PyData, PyData.eqv a a = true → PyData.eqv b b = true → PyData.eqvAll [a, b] [a, b] = true := fun a b h1 h2 => by
    show (PyData.eqv a a && (PyData.eqv b b && true)) = true
    rw [h1, h2]
    rfl
  have more : ∀ (a : PyData) (l : List PyData), PyData.eqv a a = true → PyData.eqvAll l l = true → PyData.eqvAll (a :: l) (a :: l) = true := fun a l h1 h2 => by
    show (PyData.eqv a a && PyData.eqvAll l l) = true
    rw [h1, h2]
    rfl
  rw [encR_rowD]
  show PyData.eqvAll (rowD r) (rowD r) = true
  cases r with
  | open_ p => exact two _ _ (eqv_s _) (eqv_s _)
  | lay n p z => exact more _ _ (eqv_s _) (more _ _ (eqv_s _) (two _ _ (eqv_s _) (eqv_i _)))
  | copy n o p => exact more _ _ (eqv_s _) (more _ _ (eqv_s _) (two _ _ (eqv_s _) (eqv_s _)))
  | same n o => exact more _ _ (eqv_s _) (two _ _ (eqv_s _) (eqv_s _))
  | add n o => exact more _ _ (eqv_s _) (two _ _ (eqv_s _) (eqv_s _))
  | tell n => exact two _ _ (eqv_s _) (eqv_s _)
  | give p => exact two _ _ (eqv_s _) (eqv_s _)
  | fork k => exact two _ _ (eqv_s _) (eqv_i _)
  | go k => exact two _ _ (eqv_s _) (eqv_i _)
  | end_ => exact more _ [] (eqv_s _) rfl
theorem fit_row {r : PL.Row} (h : ∀ x ∈ textsR r, PyData.strOk x = true) : Fit 1 (encR r) := by
  cases r <;> (refine fit_tup (n := 0) fun e me => ?_; simp only [List.mem_cons, List.not_mem_nil, or_false] at me)
  · rcases me with rfl | rfl
    · exact fit_str 0 (by decide +kernel)
    · exact fit_str 0 (h _ (by simp [textsR]))
  · rcases me with rfl | rfl | rfl | rfl
    · exact fit_str 0 (by decide +kernel)
    · exact fit_str 0 (h _ (by simp [textsR]))
    · exact fit_str 0 (h _ (by simp [textsR]))
    · exact fit_int 0 _
  · rcases me with rfl | rfl | rfl | rfl
    · exact fit_str 0 (by decide +kernel)
    · exact fit_str 0 (h _ (by simp [textsR]))
    · exact fit_str 0 (h _ (by simp [textsR]))
    · exact fit_str 0 (h _ (by simp [textsR]))
  · rcases me with rfl | rfl | rfl
    · exact fit_str 0 (by decide +kernel)
    · exact fit_str 0 (h _ (by simp [textsR]))
    · exact fit_str 0 (h _ (by simp [textsR]))
  · rcases me with rfl | rfl | rfl
    · exact fit_str 0 (by decide +kernel)
    · exact fit_str 0 (h _ (by simp [textsR]))
    · exact fit_str 0 (h _ (by simp [textsR]))
  · rcases me with rfl | rfl
    · exact fit_str 0 (by decide +kernel)
    · exact fit_str 0 (h _ (by simp [textsR]))
  · rcases me with rfl | rfl
    · exact fit_str 0 (by decide +kernel)
    · exact fit_str 0 (h _ (by simp [textsR]))
  · rcases me with rfl | rfl
    · exact fit_str 0 (by decide +kernel)
    · exact fit_int 0 _
  · rcases me with rfl | rfl
    · exact fit_str 0 (by decide +kernel)
    · exact fit_int 0 _
  · subst me
    exact fit_str 0 (by decide +kernel)
theorem cutD_mid (ds : List PyData) (a b : Nat) (h : a ≤ b) : PL.cutD ds (some (a : Int)) (some (b : Int)) = (ds.drop a).take (b - a) := by
  unfold PL.cutD
  rw [HT.sIx_nat, HT.sIx_nat]
  by_cases h1 : ds.length ≤ a
  · have e1 : min a ds.length = ds.length := Nat.min_eq_right h1
    rw [e1, List.drop_eq_nil_of_le (Nat.le_refl _), List.drop_eq_nil_of_le h1]
    simp
  · have e1 : min a ds.length = a := Nat.min_eq_left (by omega)
    rw [e1]
    by_cases h2 : b ≤ ds.length
    · rw [Nat.min_eq_left h2]
    · rw [Nat.min_eq_right (by omega), List.take_of_length_le (by rw [List.length_drop]; omega), List.take_of_length_le (by rw [List.length_drop]; omega)]
def manyC (ns : List Int) : Nat := (40 + ns.getD 5 0 / 8 % 21).toNat
def cellC (ns : List Int) (k : Nat) : Int := ns.getD (6 + k % 3) 0 / 7 + 7919 * (k : Int)
def cellsM (ns : List Int) : List Int := if ns.getD 5 0 % 8 = 1 then (List.range (manyC ns)).map (cellC ns) else (ns.drop 6).take 14
def rowsC (ns : List Int) : List PL.Row := (cellsM ns).map fun c => rowM (plotsM ns) (namesM ns) c ((cellsM ns).length : Int)
theorem cells_len (ns : List Int) : (cellsM ns).length ≤ 60 := by
  unfold cellsM
  split
  · rw [List.length_map, List.length_range]
    unfold manyC
    omega
  · rw [List.length_take]
    omega
theorem rowsC_len (ns : List Int) : (rowsC ns).length = (cellsM ns).length := by unfold rowsC; rw [List.length_map]
theorem rowsC_texts (ns : List Int) : ∀ r ∈ rowsC ns, ∀ x ∈ textsR r, PyData.strOk x = true := by
  intro r m
  unfold rowsC at m
  obtain ⟨c, _, rfl⟩ := List.mem_map.mp m
  have h1 := manyM_le ns
  have h2 := names_len ns
  exact row_texts (by rw [plots_len]; omega) (by omega) (plots_ok ns) (names_ok ns) c _
def rowAt (rows : List PL.Row) (p : Nat) : PL.Row := rows.getD p .end_
theorem rowAt_texts {rows : List PL.Row} (h : ∀ r ∈ rows, ∀ x ∈ textsR r, PyData.strOk x = true) (p : Nat) : ∀ x ∈ textsR (rowAt rows p), PyData.strOk x = true := by
  unfold rowAt
  rw [List.getD_eq_getElem?_getD]
  cases hg : rows[p]? with
  | none => intro x m; exact absurd m (by simp [textsR])
  | some r => exact h r (List.mem_of_getElem? hg)
def optI : Option Int → PyData
  | none => .none
  | some x => .int x
def encY (q : Option Int × Int) : PyData := .tuple [optI q.1, .int q.2]
def waysM (rows : List PL.Row) (p : Nat) : List (Option Int × Int) := match rowAt rows p with
  | .end_ => []
  | .go k => [(none, k)]
  | .fork k => [(some 0, (p : Int) + 1), (some 1, k)]
  | _ => [(none, (p : Int) + 1)]
theorem eqv_y (q : Option Int × Int) : PyData.eqv (encY q) (encY q) = true := by
  obtain ⟨a, b⟩ := q
  show (PyData.eqv (optI a) (optI a) && (PyData.eqv (.int b) (.int b) && true)) = true
  rw [eqv_i]
  cases a with
  | none => rfl
  | some x =>
    show (PyData.eqv (.int x) (.int x) && _) = true
    rw [eqv_i]
    rfl
theorem fit_y (q : Option Int × Int) : Fit 1 (encY q) := by
  obtain ⟨a, b⟩ := q
  refine fit_tup (n := 0) fun e me => ?_
  simp only [List.mem_cons, List.not_mem_nil, or_false] at me
  rcases me with rfl | rfl
  · cases a with
    | none => exact fit_none 0
    | some x => exact fit_int 0 x
  · exact fit_int 0 b
/-! ### the chain of a plot, step by step -/
theorem chain_at (ns : List Int) : ∀ i : Nat, i < manyM ns → ∀ (t : Nat) (x : Str), (outM (plotsM ns) (nameM ns i))[t]? = some x → ∃ j, j < manyM ns ∧ x = nameM ns j ∧ (outM (plotsM ns) (nameM ns i))[t + 1]? = (plotM ns j).2 := by
  intro i
  induction i using Nat.strongRecOn with
  | ind i ih =>
    intro hi t x hx
    rw [chain_rec ns i hi] at hx ⊢
    have hpn := pickM_nn ns i
    cases t with
    | zero =>
      rw [List.getElem?_cons_zero] at hx
      cases hx
      refine ⟨i, hi, rfl, ?_⟩
      rw [List.getElem?_cons_succ]
      unfold plotM
      by_cases hp : pickM ns i < i
      · rw [if_pos hp, if_pos hp, chain_rec ns _ (by omega)]
        rfl
      · rw [if_neg hp, if_neg hp]
        rfl
    | succ t =>
      rw [List.getElem?_cons_succ] at hx
      rw [List.getElem?_cons_succ]
      by_cases hp : pickM ns i < i
      · rw [if_pos hp] at hx ⊢
        exact ih (pickM ns i).toNat (by omega) (by omega) t x hx
      · rw [if_neg hp] at hx
        cases hx
theorem chain_len (ns : List Int) : ∀ i : Nat, i < manyM ns → 1 ≤ (outM (plotsM ns) (nameM ns i)).length ∧ (outM (plotsM ns) (nameM ns i)).length ≤ i + 1 := by
  intro i
  induction i using Nat.strongRecOn with
  | ind i ih =>
    intro hi
    rw [chain_rec ns i hi]
    have hpn := pickM_nn ns i
    by_cases hp : pickM ns i < i
    · rw [if_pos hp, List.length_cons]
      have := ih (pickM ns i).toNat (by omega) (by omega)
      omega
    · rw [if_neg hp]
      show 1 ≤ 1 ∧ 1 ≤ i + 1
      omega
theorem chain_mem (ns : List Int) (i : Nat) (hi : i < manyM ns) : ∀ x ∈ outM (plotsM ns) (nameM ns i), PyData.strOk x = true := by
  intro x m
  obtain ⟨t, ht⟩ := List.getElem?_of_mem m
  obtain ⟨j, hj, rfl, _⟩ := chain_at ns i hi t x ht
  have := manyM_le ns
  exact nameM_ok ns j (by omega)
end PR
/-! dict(pairs), the pairs' keys texts, each once. -/
namespace PL
open PySem L2 PySem.Spec PyProof.Rows
def pairD : PyData → Option (Str × PyData)
  | .tuple [.str k, d] => some (k, d)
  | _ => none
def pairsD : List PyData → Option (List (Str × PyData))
  | [] => some []
  | d :: ds => (pairD d).bind fun q => (pairsD ds).map (q :: ·)
def gDict : List PyData → Option PyData
  | [.list ds] => (pairsD ds).bind fun ps => if (ps.map (·.1)).Nodup then some (.dict (kvP (ps.map (·.1)) (ps.map (·.2)))) else none
  | _ => none
section
variable {K : PySem.W.Frag} {H : Hp}
theorem pair_rp {d : PyData} {q : Str × PyData} {v : V} (h : Rp K H v d) (e : pairD d = some q) : ∃ a u, v = .ref a ∧ SqT K H a [.str q.1, u] ∧ Rp K H u q.2 := by
  unfold pairD at e
  split at e
  · cases e
    cases h with
    | tup h r =>
      cases r with
      | cons r1 r =>
        cases r1
        cases r with
        | cons r2 r =>
          cases r
          exact ⟨_, _, rfl, h, r2⟩
  · cases e
theorem pairs_rp : ∀ {ds : List PyData} {ps : List (Str × PyData)} {vs : List V}, RpAll K H vs ds → pairsD ds = some ps → ∃ (as : List Addr) (us : List V), vs = as.map V.ref ∧ us.length = ps.length ∧ Paired (fun p (kv : Key × V) => SqT K H p [kV kv.1, kv.2]) as (kvV (ps.map (·.1)) us) ∧ RpAll K H us (ps.map (·.2))
  | [], ps, _, .nil, e => by
    cases e
    exact ⟨[], [], rfl, rfl, .nil, .nil⟩
  | d :: ds, ps, _, .cons r t, e => by
    unfold pairsD at e
    obtain ⟨q, hq, e⟩ := Option.bind_eq_some_iff.mp e
    obtain ⟨ps', hp, rfl⟩ := Option.map_eq_some_iff.mp e
    obtain ⟨a, u, rfl, h1, r1⟩ := pair_rp r hq
    obtain ⟨as, us, rfl, hl, h2, r2⟩ := pairs_rp t hp
    exact ⟨a :: as, u :: us, rfl, by rw [List.length_cons, List.length_cons, hl], .cons h1 h2, .cons r1 r2⟩
abbrev rDictC (K : PySem.W.Frag) : List V → Hp → VK → Prop := fun xs H Q => ∃ a ps kvs, xs = [V.ref a] ∧ SqL K H a (List.map V.ref ps) ∧ Paired (fun p kv => SqT K H p [kV kv.fst, kv.snd]) ps kvs ∧ ∀ (p : Addr), H p = none → Q (V.ref p) (upd H p (HO.dK (mergeK [] kvs)))
theorem den_dictP {tr : TA} {fr : PL.Env → Option (List PyData)} (h : DenAP K tr fr) : DenP K (tCB (rDictC K) tr) (eA gDict fr) := by
  intro base O0 O σ H env d S e Q q
  unfold eA at e
  cases k1 : fr env with
  | none => simp [k1] at e
  | some xs =>
    simp only [k1, Option.bind_some] at e
    unfold gDict at e
    split at e
    · rename_i ds
      obtain ⟨ps, hp, e⟩ := Option.bind_eq_some_iff.mp e
      split at e
      case isFalse => cases e
      rename_i nd
      cases e
      refine h base O0 O σ H env _ S k1 _ fun vs H1 x1 r1 => ?_
      cases r1 with
      | cons o t =>
        cases t
        cases o with
        | lst hl r =>
          obtain ⟨as, us, rfl, hlen, hpr, ru⟩ := pairs_rp r hp
          have hlk : (ps.map (·.1)).length = us.length := by rw [List.length_map, hlen]
          refine ⟨_, as, kvV (ps.map (·.1)) us, rfl, SqL.of (vis_le _ _ hl), ?_, fun p hpn => ?_⟩
          · have go : ∀ {as : List Addr} {kvs : List (Key × V)}, Paired (fun p (kv : Key × V) => SqT K (vis O H1) p [kV kv.1, kv.2]) as kvs → Paired (fun p (kv : Key × V) => SqT K H1 p [kV kv.1, kv.2]) as kvs := fun {as kvs} pr => by
              induction pr with
              | nil => exact .nil
              | cons a _ ih => exact .cons (ex_t vis_le a) ih
            exact go hpr
          · have hm : mergeK [] (kvV (ps.map (·.1)) us) = kvV (ps.map (·.1)) us := by
              unfold mergeK
              rw [merge_new _ [] (by rw [List.nil_append, kvV_keys hlk]; exact keys_nd nd)]
              rfl
            rw [hm]
            refine q _ _ (x1.trans (Ex.new hpn)) (.dic (vis_at ?_ upd_same) hlk (ru.mono (vis_mono (Ex.new hpn))))
            cases z : O p with
            | false => rfl
            | true => exact absurd hpn ((S.mono x1).all p z)
    · cases e
end
section
variable {K : PySem.W.Frag} {X : Cx} {e : Expr} {es : List Expr} {tr : TA} {fr : PL.Env → Option (List PyData)} {p pos : Pos}
theorem fDict (hm : X.mg "dict" = none) (hc : X.calm = true := by rfl) (hg : Gl X "dict" := by rfl) (ha : EB K X (e :: es) tr fr) (he : starEach (e :: es) X.env = (false, eval e X.env) :: starEach es X.env := by rfl) (hpl : (backTo pos (starEach es X.env)).any (·.1) = false := by rfl) (hK : X.K = K := by rfl) :
    EP K X (.Call (.Name "dict" p) (e :: es) [] pos) (tCB (rDictC K) tr) (eA gDict fr) := by
  subst hK
  exact ⟨pe_callTy (call_dictP hc) hg hm (by decide +kernel) ha.pe (by decide) (by decide) he hpl, den_dictP ha.de⟩
end
/-! ### the truth of any flat value -/
def truD : PyData → Option Bool
  | .none => some false
  | .bool b => some b
  | .int i => some (i != 0)
  | .str z => if z.length ≤ 100000 then some ((z.length : Int) != 0) else none
  | _ => none
def tV (f : PL.Env → Option PyData) : PL.Env → Option Bool := fun env => (f env).bind truD
section
variable {K : PySem.W.Frag} {X : Cx} {e : Expr} {te : TE} {f : PL.Env → Option PyData}
theorem den_tru (h : Den K te f) : DenT K (fun σ H Q => te σ H fun x H' => ∃ k, TruV K x H' k ∧ Q k H') (tV f) := by
  intro base O0 O σ H env b S e Q q
  unfold tV at e
  cases h1 : f env with
  | none => simp [h1] at e
  | some x =>
    simp only [h1, Option.bind_some] at e
    refine h base O0 O σ H env x S h1 _ fun v H1 e1 o1 => ?_
    unfold truD at e
    split at e
    · cases e
      rcases o1 with r | ⟨_, _, _, _, _, _, z⟩ | ⟨_, z, _⟩
      · cases r
        exact ⟨false, rfl, q _ e1⟩
      · cases z
      · cases z
    · cases e
      rw [o1.bl]
      exact ⟨_, rfl, q _ e1⟩
    · cases e
      rw [o1.int]
      exact ⟨_, rfl, q _ e1⟩
    · split at e
      case isFalse => cases e
      rename_i hl
      cases e
      rw [o1.str]
      exact ⟨_, ⟨Nat.le_trans hl (by decide), rfl⟩, q _ e1⟩
    · cases e
theorem tTru_ (h : EO K X e te f) (he : ∀ whole, isTrue e X.env whole = (do let v ← whole; standAt e.pos; holding [v] (truthy v)) := by intro _; rfl) (hK : X.K = K := by rfl) : ET K X e (fun σ H Q => te σ H fun x H' => ∃ k, TruV K x H' k ∧ Q k H') (tV f) := by
  subst hK
  exact ⟨pt_truth h.pe he, den_tru h.de⟩
end
end PL
/-! Words of rows by number; facts. -/
namespace PR
open PySem L2 PySem.Spec PyProof.Rows PL
def kindR : PL.Row → Nat
  | .open_ _ => 0 | .lay .. => 1 | .copy .. => 2 | .same .. => 3 | .add .. => 4 | .tell _ => 5 | .give _ => 6 | .fork _ => 7 | .go _ => 8 | .end_ => 9
def wtab : Nat → Str
  | 0 => "open" | 1 => "lay" | 2 => "copy" | 3 => "same" | 4 => "add" | 5 => "tell" | 6 => "give" | 7 => "fork" | 8 => "go" | 9 => "end" | _ => ""
theorem wordR_tab (r : PL.Row) : wordR r = wtab (kindR r) := by cases r <;> rfl
theorem kindR_lt (r : PL.Row) : kindR r < 10 := by cases r <;> exact Nat.le_of_ble_eq_true rfl
theorem wtab_inj : ∀ i, i < 10 → ∀ j, j < 10 → decide (wtab i = wtab j) = decide (i = j) := by decide +kernel
theorem wtab_ok : ∀ j, j < 10 → PyData.strOk (wtab j) = true := by decide +kernel
theorem weq (r : PL.Row) {j : Nat} (hj : j < 10) : decide (wordR r = wtab j) = decide (kindR r = j) := by
  rw [wordR_tab]
  exact wtab_inj _ (kindR_lt r) _ hj
theorem weq_ev {a : PL.Env → Option PyData} {env : PL.Env} {r : PL.Row} (j : Nat) {z : Str} (ha : a env = some (.str (wordR r))) (hz : wtab j = z := by rfl) (hj : j < 10 := by decide) : tE (e2 gEq a (eC (.str z))) env = some (decide (kindR r = j)) := by
  subst hz
  rw [← weq r hj]
  exact eqz_ev ha rfl (wordR_ok r) (wtab_ok _ hj)
theorem wne_ev {a : PL.Env → Option PyData} {env : PL.Env} {r : PL.Row} (j : Nat) {z : Str} (ha : a env = some (.str (wordR r))) (hz : wtab j = z := by rfl) (hj : j < 10 := by decide) : tE (e2 gNe a (eC (.str z))) env = some (!decide (kindR r = j)) := by
  subst hz
  rw [← weq r hj]
  exact nez_ev ha rfl (wordR_ok r) (wtab_ok _ hj)
theorem look_tab {j : Nat} (hj : j < 10) (d : PyData) (rest : List (PyData × PyData)) (r : PL.Row) : lookP ((.str (wtab j), d) :: rest) (wordR r) = if kindR r = j then some d else lookP rest (wordR r) := by
  have h := weq r hj
  show (if wtab j = wordR r then some d else lookP rest (wordR r)) = _
  by_cases e : kindR r = j
  · rw [decide_eq_true e] at h
    rw [if_pos e, if_pos (of_decide_eq_true h).symm]
  · rw [decide_eq_false e] at h
    rw [if_neg e, if_neg (fun z => of_decide_eq_false h z.symm)]
theorem rl_no {t : PL.Env → Option Bool} {F R : PL.Env → Option Out} {env : PL.Env} (h : t env = some false) : sSeq (sIf t F sNext) R env = R env := by
  rw [if_seq h]
  rfl
theorem rl_yes {t : PL.Env → Option Bool} {F F2 R : PL.Env → Option Out} {env : PL.Env} (h : t env = some true) : sSeq (sIf t F F2) R env = sSeq F R env := by
  rw [if_seq h]
  rfl
theorem rt_ev {f : PL.Env → Option PyData} {R : PL.Env → Option Out} {env : PL.Env} {d : PyData} (h : f env = some d) : sSeq (sRet f) R env = some (.rt d) := by
  unfold sSeq sRet
  rw [h]
  rfl
theorem rt1_ev {f : PL.Env → Option PyData} {env : PL.Env} {d : PyData} (h : f env = some d) : sRet f env = some (.rt d) := by
  unfold sRet
  rw [h]
  rfl
theorem eqiv_ev {a b : PL.Env → Option PyData} {env : PL.Env} {i j : Int} (ha : a env = some (.int i)) (hb : b env = some (.int j)) : e2 gEq a b env = some (.bool (decide (i = j))) := by
  have h := eqi_ev ha hb
  unfold tE at h
  obtain ⟨d, hd, hb⟩ := Option.bind_eq_some_iff.mp h
  cases d <;> first | (cases hb; exact hd) | cases hb
theorem asg_seq {f : PL.Env → Option PyData} {gs : List PyData → PL.Env → Option PL.Env} {n : Nat} {F : PL.Env → Option Out} {env e : PL.Env} {d : PyData} (h : f env = some d) (hg : tgT n gs d env = some e) : sSeq (sAsg f (tgT n gs)) F env = F e := by
  unfold sSeq sAsg
  rw [h]
  simp only [Option.bind_some]
  rw [hg]
  rfl
/-! ### facts -/
inductive Fact where
  | plot (x : Str) (b : Bool)
  | name (x : Str) (w : Option Str)
  deriving DecidableEq
def encF : Fact → PyData
  | .plot x b => .tuple [.str "plot", .str x, .bool b]
  | .name x w => .tuple [.str "name", .str x, optD w]
def okF : Fact → Prop
  | .plot x _ => PyData.strOk x = true
  | .name x w => PyData.strOk x = true ∧ ∀ z, w = some z → PyData.strOk z = true
def wantN : PL.Row → List Str
  | .copy _ o _ => [o] | .same _ o => [o] | .add n o => [n, o] | .tell n => [n] | _ => []
def wantP (ps : List (Str × Option Str)) : PL.Row → Option Str
  | .open_ x => (getA ps x).getD none
  | .lay _ p _ => some p | .copy _ _ p => some p | .give p => some p | _ => none
/-- the word by which a row goes wrong by a fact alone -/
def wbM (ps : List (Str × Option Str)) (r : PL.Row) : Fact → Str
  | .plot x true => if kindR r = 9 then "left" else if r = .open_ x then "open already" else ""
  | .plot x false => if wantP ps r = some x then "not open" else ""
  | .name x w => if x ∈ wantN r then (match w with
    | none => "nothing"
    | some z => if z = "" ∧ kindR r ≠ 3 then "gone" else "") else ""
theorem wbM_up (ps : List (Str × Option Str)) (r : PL.Row) (x : Str) : wbM ps r (.plot x true) = (if kindR r = 9 then ("left" : Str) else if r = .open_ x then ("open already" : Str) else ("" : Str)) := rfl
theorem wbM_shut (ps : List (Str × Option Str)) (r : PL.Row) (x : Str) : wbM ps r (.plot x false) = (if wantP ps r = some x then ("not open" : Str) else ("" : Str)) := rfl
theorem wbM_name (ps : List (Str × Option Str)) (r : PL.Row) (x : Str) (w : Option Str) : wbM ps r (.name x w) = (if x ∈ wantN r then (match w with
    | none => ("nothing" : Str)
    | some z => if z = "" ∧ kindR r ≠ 3 then ("gone" : Str) else ("" : Str)) else ("" : Str)) := rfl
def RowOf (ps : List (Str × Option Str)) (r : PL.Row) : Prop := (∀ x ∈ textsR r, PyData.strOk x = true) ∧ ∀ x, r = .open_ x → x ∈ ps.map (·.1)
structure PGood (ps : List (Str × Option Str)) : Prop where
  ok : ps.all okP = true
  len : ps.length ≤ 1000
  nd : (ps.map (·.1)).Nodup
theorem pgood (ns : List Int) : PGood (plotsM ns) := ⟨plots_ok ns, by have := manyM_le ns; rw [plots_len]; omega, plots_nodup ns⟩
theorem PGood.str {ps : List (Str × Option Str)} (G : PGood ps) {x : Str} (h : x ∈ ps.map (·.1)) : PyData.strOk x = true := by
  obtain ⟨q, mq, e⟩ := List.mem_map.mp h
  rw [← e]
  have := List.all_eq_true.mp G.ok q mq
  unfold okP at this
  rw [Bool.and_eq_true] at this
  exact this.1
theorem PGood.out {ps : List (Str × Option Str)} (G : PGood ps) {q : Str × Option Str} (h : q ∈ ps) : ∀ z, q.2 = some z → PyData.strOk z = true := by
  intro z e
  have := List.all_eq_true.mp G.ok q h
  unfold okP at this
  rw [Bool.and_eq_true, e] at this
  exact this.2
theorem row_of {ps : List (Str × Option Str)} {nms : List Str} (G : PGood ps) (h1 : 0 < ps.length) (h2 : 0 < nms.length) (hn : ∀ x ∈ nms, PyData.strOk x = true) (c sz : Int) : RowOf ps (rowM ps nms c sz) := by
  refine ⟨row_texts h1 h2 G.ok hn c sz, fun x e => ?_⟩
  unfold rowM at e
  split at e <;> try cases e
  exact pickS_mem (by rw [List.length_map]; exact h1)
def whM (p : Str) : Nat → Option Str
  | 0 => none
  | 1 => some ""
  | _ => some p
def factM (ps : List (Str × Option Str)) (nms : List Str) (c : Int) : Fact :=
  if c % 3 = 0 then .plot (pickS (ps.map (·.1)) (c / 12 * 48271 % 10007)) (decide (c / 3 % 2 = 0))
  else .name (pickS nms (c / 36 * 16807 % 10009)) (whM (pickS (ps.map (·.1)) (c / 12 * 48271 % 10007)) (c / 3 % 4).toNat)
theorem factM_ok {ps : List (Str × Option Str)} {nms : List Str} (G : PGood ps) (h1 : 0 < ps.length) (h2 : 0 < nms.length) (hn : ∀ x ∈ nms, PyData.strOk x = true) (c : Int) : okF (factM ps nms c) := by
  have hp : PyData.strOk (pickS (ps.map (·.1)) (c / 12 * 48271 % 10007)) = true := G.str (pickS_mem (by rw [List.length_map]; exact h1))
  unfold factM
  split
  · exact hp
  · refine ⟨hn _ (pickS_mem h2), fun z e => ?_⟩
    unfold whM at e
    split at e
    · cases e
    · cases e
      decide +kernel
    · cases e
      exact hp
theorem pairsD_enc : ∀ ps : List (Str × Option Str), pairsD (ps.map encP) = some (ps.map fun q => (q.1, optD q.2))
  | [] => rfl
  | q :: ps => by
    show (pairD (encP q)).bind (fun q => (pairsD (ps.map encP)).map (q :: ·)) = _
    rw [pairsD_enc ps]
    rfl
theorem dict_ev {a : PL.Env → Option PyData} {env : PL.Env} {ps : List (Str × Option Str)} (ha : a env = some (encPs ps)) (nd : (ps.map (·.1)).Nodup) : eA gDict (aCons a aNil) env = some (.dict (kvP (ps.map (·.1)) (ps.map fun q => optD q.2))) := by
  unfold eA
  rw [acons_ev ha anil_ev]
  show (pairsD (ps.map encP)).bind (fun ps => if (ps.map (·.1)).Nodup then some (PyData.dict (kvP (ps.map (·.1)) (ps.map (·.2)))) else none) = _
  have h1 : (ps.map fun q => (q.1, optD q.2)).map (·.1) = ps.map (·.1) := by rw [List.map_map]; rfl
  have h2 : (ps.map fun q => (q.1, optD q.2)).map (·.2) = ps.map fun q => optD q.2 := by rw [List.map_map]; rfl
  rw [pairsD_enc, Option.bind_some, h1, h2, if_pos nd]
theorem look_ps {x : Str} : ∀ {ps : List (Str × Option Str)}, lookP (kvP (ps.map (·.1)) (ps.map fun q => optD q.2)) x = (getA ps x).map optD
  | [] => rfl
  | q :: ps => by
    show (if q.1 = x then some (optD q.2) else lookP (kvP (ps.map (·.1)) (ps.map fun q => optD q.2)) x) = _
    unfold getA
    by_cases e : q.1 = x
    · rw [if_pos e, List.find?_cons_of_pos (by simp [e])]
      rfl
    · rw [if_neg e, List.find?_cons_of_neg (by simp [e]), look_ps]
      rfl
theorem get_mem {ps : List (Str × Option Str)} {x : Str} (nd : (ps.map (·.1)).Nodup) (h : x ∈ ps.map (·.1)) : ∃ q ∈ ps, q.1 = x ∧ getA ps x = some q.2 := by
  obtain ⟨q, mq, rfl⟩ := List.mem_map.mp h
  exact ⟨q, mq, rfl, get_of_mem' nd mq⟩
theorem filt_key {α : Type} {l : List (Str × α)} {q : Str × α} (f : Str × α → Bool) (nd : (l.map (·.1)).Nodup) (m : q ∈ l) : l.filter (fun a => decide (a.1 = q.1) && f a) = if f q = true then [q] else [] := by
  induction l with
  | nil => cases m
  | cons a l ih =>
    rw [List.map_cons, List.nodup_cons] at nd
    rcases List.mem_cons.mp m with e | m
    · subst e
      have : l.filter (fun a => decide (a.1 = q.1) && f a) = [] := List.filter_eq_nil_iff.mpr fun b mb z => by
        rw [Bool.and_eq_true, decide_eq_true_eq] at z
        exact nd.1 (z.1 ▸ List.mem_map_of_mem mb)
      by_cases h : f q = true
      · rw [List.filter_cons_of_pos (by simp [h]), this, if_pos h]
      · rw [List.filter_cons_of_neg (by simp [h]), this, if_neg h]
    · have ne : ¬ a.1 = q.1 := fun e => nd.1 (e ▸ List.mem_map_of_mem m)
      rw [List.filter_cons_of_neg (by simp [ne])]
      exact ih nd.2 m
/-- a text in a list of texts or nothing -/
theorem in_opts {neg : Bool} {x : Str} {l : List (Option Str)} (hx : PyData.strOk x = true) (hl : ∀ y ∈ l, ∀ z, y = some z → PyData.strOk z = true) : gInL neg (.str x) (.list (l.map optD)) = some (.bool (if neg then !decide (some x ∈ l) else decide (some x ∈ l))) := by
  unfold gInL
  have h1 : SeqAt.shaped (.list (l.map optD)) = true := (fit_list (n := 0) fun d m => by
    obtain ⟨y, my, rfl⟩ := List.mem_map.mp m
    cases y with
    | none => exact fit_none 0
    | some z => exact fit_str 0 (hl _ my z rfl)).sh (by omega)
  show (if SeqAt.shaped (.str x) && SeqAt.shaped (.list (l.map optD)) then some (PyData.bool (if neg then !(l.map optD).any fun z => PyData.eqv z (.str x) else (l.map optD).any fun z => PyData.eqv z (.str x))) else none) = _
  rw [shaped_str hx, h1]
  have h2 : ((l.map optD).any fun z => PyData.eqv z (.str x)) = decide (some x ∈ l) := by
    rw [List.any_map, Bool.eq_iff_iff, List.any_eq_true, decide_eq_true_eq]
    constructor
    · rintro ⟨y, my, e⟩
      cases y with
      | none => exact absurd e (by intro z; cases z)
      | some y =>
        have e' : PyData.eqv (.str y) (.str x) = true := e
        rw [eqv_str] at e'
        rw [← of_decide_eq_true e']
        exact my
    · intro m
      refine ⟨some x, m, ?_⟩
      show PyData.eqv (.str x) (.str x) = true
      rw [eqv_str]
      simp
  rw [h2]
  rfl
theorem ino_ev {neg : Bool} {a b : PL.Env → Option PyData} {env : PL.Env} {x : Str} {l : List (Option Str)} (ha : a env = some (.str x)) (hb : b env = some (.list (l.map optD))) (hx : PyData.strOk x = true) (hl : ∀ y ∈ l, ∀ z, y = some z → PyData.strOk z = true) : tE (e2 (gInL neg) a b) env = some (if neg then !decide (some x ∈ l) else decide (some x ∈ l)) := te2r_ev ha hb (in_opts hx hl)
end PR
/-! What stems from a fact. -/
namespace PR
open PySem L2 PySem.Spec PyProof.Rows PL
theorem outGo_mem {y : Str} : ∀ {l : List (Str × Option Str)} {w : Option Str}, y ∈ outGo l w → y ∈ l.map (·.1)
  | [], _, h => by cases h
  | q :: l, w, h => by
    rw [List.map_cons]
    have h : y ∈ (if w = some q.1 then q.1 :: outGo l q.2 else outGo l w) := h
    split at h
    · rcases List.mem_cons.mp h with e | h
      · rw [e]; exact List.mem_cons_self ..
      · exact List.mem_cons_of_mem _ (outGo_mem h)
    · exact List.mem_cons_of_mem _ (outGo_mem h)
theorem outM_mem {ps : List (Str × Option Str)} {x y : Str} (h : y ∈ outM ps x) : y ∈ ps.map (·.1) := by
  have := outGo_mem h
  rw [List.map_reverse, List.mem_reverse] at this
  exact this
theorem andb_ev {a b : PL.Env → Option PyData} {env : PL.Env} {x y : Bool} (ha : tE a env = some x) (hb : x = true → b env = some (.bool y)) : eAndB a b env = some (.bool (x && y)) := by
  unfold eAndB
  rw [ha]
  cases x with
  | true => exact hb rfl
  | false => rfl
theorem orb_ev {a b : PL.Env → Option PyData} {env : PL.Env} {x y : Bool} (ha : tE a env = some x) (hb : x = false → b env = some (.bool y)) : eOrB a b env = some (.bool (x || y)) := by
  unfold eOrB
  rw [ha]
  cases x with
  | false => exact hb rfl
  | true => rfl
theorem tv_ev {f : PL.Env → Option PyData} {env : PL.Env} {b : Bool} (h : tE f env = some b) : f env = some (.bool b) := by
  unfold tE at h
  obtain ⟨d, hd, hb⟩ := Option.bind_eq_some_iff.mp h
  cases d <;> first | (cases hb; exact hd) | cases hb
theorem vt_ev {f : PL.Env → Option PyData} {env : PL.Env} {b : Bool} (h : f env = some (.bool b)) : tE f env = some b := by
  unfold tE
  rw [h]
  rfl
def laysR : PL.Row → Bool
  | .lay .. => true | .copy .. => true | _ => false
def firstN : PL.Row → Str
  | .lay n _ _ => n | .copy n _ _ => n | .same n _ => n | _ => ""
def givesM (ps : List (Str × Option Str)) : PL.Row → Str → Bool
  | .give p, x => decide (p ∈ outM ps x)
  | _, _ => false
def gvM (ps : List (Str × Option Str)) (r : PL.Row) : Option Str → Bool
  | none => false
  | some z => decide (z ≠ "") && givesM ps r z
def bhP (ps : List (Str × Option Str)) (r : PL.Row) (x : Str) (b : Bool) : List Fact :=
  if r = .open_ x then [.plot x true] else if givesM ps r x = true then [.plot x false] else if laysR r = true ∧ wantP ps r = some x then [.plot x b, .name (firstN r) (some x)] else [.plot x b]
def bhN (ps : List (Str × Option Str)) (r : PL.Row) (x : Str) (w : Option Str) : List Fact := match r with
  | .same n o => if n = o then [.name x w] else (if x = n then [] else [.name x w]) ++ (if x = o then [.name n w] else [])
  | .lay n _ _ => if n = x then [] else [.name x w]
  | .copy n _ _ => if n = x then [] else [.name x w]
  | .give p => match w with
    | none => [.name x none]
    | some z => if z ≠ "" ∧ p ∈ outM ps z then [.name x (some "")] else [.name x w]
  | _ => [.name x w]
/-- what stems from a fact -/
def bhM (ps : List (Str × Option Str)) (r : PL.Row) : Fact → List Fact
  | .plot x b => bhP ps r x b
  | .name x w => bhN ps r x w
theorem firstN_ok {r : PL.Row} (h : ∀ x ∈ textsR r, PyData.strOk x = true) : PyData.strOk (firstN r) = true := by
  cases r <;> first | exact (by decide +kernel : PyData.strOk ("" : Str) = true) | exact h _ (by simp [textsR, firstN])
theorem bhM_ok {ps : List (Str × Option Str)} {r : PL.Row} {f : Fact} (hr : ∀ x ∈ textsR r, PyData.strOk x = true) (hf : okF f) : ∀ g ∈ bhM ps r f, okF g := by
  have h0 : PyData.strOk ("" : Str) = true := by decide +kernel
  intro g m
  cases f with
  | plot x b =>
    have m : g ∈ bhP ps r x b := m
    have hx : PyData.strOk x = true := hf
    unfold bhP at m
    split at m
    · rw [List.mem_singleton] at m; rw [m]; exact hx
    · split at m
      · rw [List.mem_singleton] at m; rw [m]; exact hx
      · split at m
        · simp only [List.mem_cons, List.not_mem_nil, or_false] at m
          rcases m with rfl | rfl
          · exact hx
          · exact ⟨firstN_ok hr, fun z e => by cases e; exact hx⟩
        · rw [List.mem_singleton] at m; rw [m]; exact hx
  | name x w =>
    have m : g ∈ bhN ps r x w := m
    cases r with
    | same n o =>
      have m : g ∈ (if n = o then [Fact.name x w] else (if x = n then [] else [.name x w]) ++ (if x = o then [.name n w] else [])) := m
      split at m
      · rw [List.mem_singleton] at m; rw [m]; exact hf
      · rcases List.mem_append.mp m with m | m
        · split at m
          · cases m
          · rw [List.mem_singleton] at m; rw [m]; exact hf
        · split at m
          · rw [List.mem_singleton] at m; rw [m]; exact ⟨hr n (by simp [textsR]), hf.2⟩
          · cases m
    | lay n p z =>
      have m : g ∈ (if n = x then [] else [Fact.name x w]) := m
      split at m
      · cases m
      · rw [List.mem_singleton] at m; rw [m]; exact hf
    | copy n o p =>
      have m : g ∈ (if n = x then [] else [Fact.name x w]) := m
      split at m
      · cases m
      · rw [List.mem_singleton] at m; rw [m]; exact hf
    | give p =>
      cases w with
      | none =>
        have m : g ∈ [Fact.name x none] := m
        rw [List.mem_singleton] at m; rw [m]; exact hf
      | some z =>
        have m : g ∈ (if z ≠ "" ∧ p ∈ outM ps z then [Fact.name x (some "")] else [.name x (some z)]) := m
        split at m
        · rw [List.mem_singleton] at m; rw [m]; exact ⟨hf.1, fun z e => by cases e; exact h0⟩
        · rw [List.mem_singleton] at m; rw [m]; exact hf
    | _ =>
      have m : g ∈ [Fact.name x w] := m
      rw [List.mem_singleton] at m; rw [m]; exact hf
theorem eqv_b (b : Bool) : PyData.eqv (.bool b) (.bool b) = true := by cases b <;> rfl
theorem eqv_o (o : Option Str) : PyData.eqv (optD o) (optD o) = true := by
  cases o with
  | none => rfl
  | some x => exact eqv_s x
theorem eqv_fact (f : Fact) : PyData.eqv (encF f) (encF f) = true := by
  cases f with
  | plot x b =>
    show (PyData.eqv (.str "plot") (.str "plot") && (PyData.eqv (.str x) (.str x) && (PyData.eqv (.bool b) (.bool b) && true))) = true
    rw [eqv_s, eqv_s, eqv_b]
    rfl
  | name x w =>
    show (PyData.eqv (.str "name") (.str "name") && (PyData.eqv (.str x) (.str x) && (PyData.eqv (optD w) (optD w) && true))) = true
    rw [eqv_s, eqv_s, eqv_o]
    rfl
theorem fit_fact {f : Fact} (h : okF f) : Fit 1 (encF f) := by
  cases f with
  | plot x b =>
    refine fit_tup (n := 0) fun e me => ?_
    simp only [List.mem_cons, List.not_mem_nil, or_false] at me
    rcases me with rfl | rfl | rfl
    · exact fit_str 0 (by decide +kernel)
    · exact fit_str 0 h
    · exact fit_bool 0 b
  | name x w =>
    refine fit_tup (n := 0) fun e me => ?_
    simp only [List.mem_cons, List.not_mem_nil, or_false] at me
    rcases me with rfl | rfl | rfl
    · exact fit_str 0 (by decide +kernel)
    · exact fit_str 0 h.1
    · cases w with
      | none => exact fit_none 0
      | some z => exact fit_str 0 (h.2 z rfl)
theorem fit_facts {l : List Fact} (h : ∀ g ∈ l, okF g) : Fit 2 (.list (l.map encF)) := fit_list fun d m => by
  obtain ⟨g, mg, rfl⟩ := List.mem_map.mp m
  exact fit_fact (h g mg)
theorem rowIs_ev {a b : PL.Env → Option PyData} {env : PL.Env} {r : PL.Row} {x : Str} (ha : a env = some (encR r)) (hb : b env = some (encR (.open_ x))) (hr : ∀ x ∈ textsR r, PyData.strOk x = true) (hx : PyData.strOk x = true) : tE (e2 gEq a b) env = some (decide (r = .open_ x)) := by
  refine te2r_ev ha hb ?_
  show (if SeqAt.shaped (encR r) && SeqAt.shaped (encR (.open_ x)) then some (PyData.bool (PyData.eqv (encR r) (encR (.open_ x)))) else none) = _
  rw [(fit_row hr).sh (by omega), (fit_row (r := .open_ x) (fun y m => by
    simp only [textsR, List.mem_cons, List.not_mem_nil, or_false] at m
    rw [m]
    exact hx)).sh (by omega)]
  show some (PyData.bool (PyData.eqv (encR r) (encR (.open_ x)))) = _
  congr 2
  rw [encR_rowD, encR_rowD]
  show PyData.eqvAll (rowD r) (rowD (.open_ x)) = _
  have hw : PyData.eqv (.str (wordR r)) (.str (wtab 0)) = decide (kindR r = 0) := by
    rw [eqv_str]
    exact weq r (by decide)
  cases r with
  | open_ y =>
    show (PyData.eqv (.str "open") (.str "open") && (PyData.eqv (.str y) (.str x) && true)) = _
    rw [eqv_str, eqv_str, Bool.and_true, decide_eq_true rfl, Bool.true_and]
    exact decide_eq_decide.mpr ⟨fun h => by rw [h], fun h => by cases h; rfl⟩
  | lay n p z => exact (congrArg (· && _) hw).trans (decide_eq_false (fun z => by cases z)).symm
  | copy n o p => exact (congrArg (· && _) hw).trans (decide_eq_false (fun z => by cases z)).symm
  | same n o => exact (congrArg (· && _) hw).trans (decide_eq_false (fun z => by cases z)).symm
  | add n o => exact (congrArg (· && _) hw).trans (decide_eq_false (fun z => by cases z)).symm
  | tell n => exact (congrArg (· && _) hw).trans (decide_eq_false (fun z => by cases z)).symm
  | give p => exact (congrArg (· && _) hw).trans (decide_eq_false (fun z => by cases z)).symm
  | fork k => exact (congrArg (· && _) hw).trans (decide_eq_false (fun z => by cases z)).symm
  | go k => exact (congrArg (· && _) hw).trans (decide_eq_false (fun z => by cases z)).symm
  | end_ => exact (congrArg (· && _) hw).trans (decide_eq_false (fun z => by cases z)).symm
theorem rn_ev {f : PL.Env → Option (List PyData)} {R : PL.Env → Option Out} {env : PL.Env} {ds : List PyData} (h : f env = some ds) : sSeq (sRetN f) R env = some (.rtn ds) := by
  unfold sSeq sRetN
  rw [h]
  rfl
theorem rn1_ev {f : PL.Env → Option (List PyData)} {env : PL.Env} {ds : List PyData} (h : f env = some ds) : sRetN f env = some (.rtn ds) := by
  unfold sRetN
  rw [h]
  rfl
theorem seq_rtn {F R : PL.Env → Option Out} {env : PL.Env} {ds : List PyData} (h : F env = some (.rtn ds)) : sSeq F R env = some (.rtn ds) := by
  unfold sSeq
  rw [h]
  rfl
theorem nlst_ev {f : PL.Env → Option (List PyData)} {env : PL.Env} {ds : List PyData} (h : f env = some ds) (hl : ds.length ≤ 100000) : nLst f env = some ds := by
  unfold nLst short
  rw [h, Option.bind_some, if_pos hl]
theorem wantP_ok {ps : List (Str × Option Str)} (G : PGood ps) {r : PL.Row} (hr : RowOf ps r) : ∀ z, wantP ps r = some z → PyData.strOk z = true := fun z e => by
  cases r with
  | open_ y =>
    obtain ⟨q, mq, _, hg⟩ := get_mem G.nd (hr.2 y rfl)
    have e' : (getA ps y).getD none = some z := e
    rw [hg] at e'
    exact G.out mq z e'
  | lay n p k => cases e; exact hr.1 _ (by simp [textsR])
  | copy n o p => cases e; exact hr.1 _ (by simp [textsR])
  | give p => cases e; exact hr.1 _ (by simp [textsR])
  | _ => cases e
theorem eqo_ev {a b : PL.Env → Option PyData} {env : PL.Env} {n : Str} {w : Option Str} (ha : a env = some (optD w)) (hb : b env = some (.str n)) (h1 : PyData.strOk n = true) (h2 : ∀ x, w = some x → PyData.strOk x = true) : tE (e2 gEq a b) env = some (decide (w = some n)) := by
  refine te2r_ev ha hb ?_
  cases w with
  | none =>
    show (if SeqAt.shaped .none && SeqAt.shaped (.str n) then some (PyData.bool (PyData.eqv .none (.str n))) else none) = _
    rw [shaped_str h1]
    rfl
  | some x =>
    show (if SeqAt.shaped (.str x) && SeqAt.shaped (.str n) then some (PyData.bool (PyData.eqv (.str x) (.str n))) else none) = _
    rw [shaped_str h1, shaped_str (h2 x rfl), eqv_str]
    show some (PyData.bool (decide (x = n))) = some (PyData.bool (decide (some x = some n)))
    congr 2
    exact decide_eq_decide.mpr ⟨fun h => by rw [h], fun h => Option.some.inj h⟩
theorem len_ne (z : Str) : ((z.length : Int) != 0) = decide (z ≠ "") := by
  rw [Bool.eq_iff_iff, bne_iff_ne, decide_eq_true_eq]
  constructor
  · intro h e
    rw [e] at h
    exact h (by decide +kernel)
  · intro h e
    apply h
    have hl : (cs z).length = 0 := by rw [cs_len]; omega
    have : cs z = [] := List.length_eq_zero_iff.mp hl
    exact cs_inj (this.trans (by decide +kernel : ([] : List Nat) = cs (Str.ofString "")))
end PR
namespace K09
open PySem L2 PySem.Spec PyProof.Rows PL PR
def topS (i : Nat) : Stmt := PySem.Challenge.pw_plotfree_k09_facts_keep_step.main.body.getD i (.Pass ⟨0, 0, 0, 0⟩)
structure Bt (mg : Str → Option Value) : Prop where
  dict : mg "dict" = none
  len : mg "len" = none
  list : mg "list" = none
  range : mg "range" = none
  reversed : mg "reversed" = none
section
variable {P : Program} {w : World} {K : PySem.W.Frag} {mg : Str → Option Value} {base : Heap}
/-! outward: plots 0, plot 1, found 2, wanted 3, name 4, outer 5 -/
abbrev s_outward : Stmt := topS 1
abbrev N_outward : List Str := ["plots", "plot", "found", "wanted", "name", "outer"]
theorem sc_outward : FnScope N_outward ["plots", "plot"] (defScope s_outward) := ⟨rfl, rfl, rfl, by decide +kernel, rfl, by decide +kernel, by decide +kernel⟩
def F_outward : PL.Env → Option Out := (sSeq (sOwn (nLst aNil) 2)
    (sSeq (sAsg (eVar 1) (tgN 3))
    (sSeq (sFor (iRv (aCons (eVar 0) aNil)) (tgT 2 (tgCons (tgN 4) (tgCons (tgN 5) tgNil))) (sIf (tE (e2 gEq (eVarO 4) (eVarO 3))) (sSeq (sApp 2 (eVar 4))
    (sAsg (eVar 5) (tgN 3))) sNext))
    (sRetO 2))))
def f_outward : List PyData → Option (List PyData) := fnN 6 F_outward
theorem ok_outward {f : Addr} {fd : FuncData} (F : Fun K "outward" "outward" s_outward f fd) (T : Bt mg) : FnOk P w K mg base CX0 1 f fd ["plots", "plot"] (spN K 2 f_outward) := by
  exact fn_denN (N := N_outward) F sc_outward (by decide) fun cdv A outer s H E hr => by
    have hu : (A.deeper (envOfC "outward" (defScope s_outward) s.heap.objs.size f cdv)).units + 65 < cLine := by have := hr.un; omega
    have hv : (A.deeper (envOfC "outward" (defScope s_outward) s.heap.objs.size f cdv)).units + 1 < cLine := by omega
    exact ek_out (K := K) ((PL.bC (zOwn 2 sc_outward.nd (dLst yN))
    (PL.bC (zAsg (vP 1) (gN (S := [3]) 3 sc_outward.nd))
    (PL.bC (zFor (S := [4, 5]) PassesOwn.never (iRv_ T.reversed (yC (vP 0) yN)) (gT (gsC (gN 4 sc_outward.nd) (gsC (gN 5 sc_outward.nd) gs0))) (PL.b1 (zIf (tcmp (kEq hu) (vO 4) (vO 3)) (PL.bC (zApp 2 (vO 2) (vP 4))
    (PL.b1 (zAsg (vP 5) (gN (S := [3]) 3 sc_outward.nd)))) PL.b0)))
    (PL.b1 (zRetO 2 (vO 2)))))))

/-! wanted_plot: plots 0, row 1, word 2 -/
abbrev s_wanted_plot : Stmt := topS 6
abbrev N_wanted_plot : List Str := ["plots", "row", "word"]
theorem sc_wanted_plot : FnScope N_wanted_plot ["plots", "row"] (defScope s_wanted_plot) := ⟨rfl, rfl, rfl, by decide +kernel, rfl, by decide +kernel, by decide +kernel⟩
def F_wanted_plot : PL.Env → Option Out := (sSeq (sAsg (e2 gIx (eVarO 1) (eC (.int 0))) (tgN 2))
    (sSeq (sIf (tE (e2 gEq (eVarO 2) (eC (.str "open")))) (sRet (e2 gDg (eA gDict (aCons (eVar 0) aNil)) (e2 gIx (eVarO 1) (eC (.int 1))))) sNext)
    (sSeq (sIf (tE (e2 gEq (eVarO 2) (eC (.str "copy")))) (sRet (e2 gIx (eVarO 1) (eC (.int 3)))) sNext)
    (sSeq (sIf (tE (e2 gEq (eVarO 2) (eC (.str "lay")))) (sRet (e2 gIx (eVarO 1) (eC (.int 2)))) sNext)
    (sSeq (sIf (tE (e2 gEq (eVarO 2) (eC (.str "give")))) (sRet (e2 gIx (eVarO 1) (eC (.int 1)))) sNext)
    (sRet (eC .none)))))))
def f_wanted_plot : List PyData → Option PyData := fnD 3 F_wanted_plot
theorem ok_wanted_plot {f : Addr} {fd : FuncData} (F : Fun K "wanted_plot" "wanted_plot" s_wanted_plot f fd) (T : Bt mg) : FnOk P w K mg base CX0 1 f fd ["plots", "row"] (spD K 2 f_wanted_plot) := by
  exact fn_den (N := N_wanted_plot) F sc_wanted_plot (by decide) fun cdv A outer s H E hr => by
    have hu : (A.deeper (envOfC "wanted_plot" (defScope s_wanted_plot) s.heap.objs.size f cdv)).units + 65 < cLine := by have := hr.un; omega
    have hv : (A.deeper (envOfC "wanted_plot" (defScope s_wanted_plot) s.heap.objs.size f cdv)).units + 1 < cLine := by omega
    exact ek_out (K := K) ((PL.bC (zAsg (ixx (vO 1) (EP.o cI)) (gN (S := [2]) 2 sc_wanted_plot.nd))
    (PL.bC (zIf (tcmp (kEq hu) (vO 2) (EP.o cS)) (PL.b1 (zRet (dgx hv (fDict T.dict (ha := (yC (vP 0) yN))) (EP.o (ixx (vO 1) (EP.o cI)))))) PL.b0)
    (PL.bC (zIf (tcmp (kEq hu) (vO 2) (EP.o cS)) (PL.b1 (zRet (ixx (vO 1) (EP.o cI)))) PL.b0)
    (PL.bC (zIf (tcmp (kEq hu) (vO 2) (EP.o cS)) (PL.b1 (zRet (ixx (vO 1) (EP.o cI)))) PL.b0)
    (PL.bC (zIf (tcmp (kEq hu) (vO 2) (EP.o cS)) (PL.b1 (zRet (ixx (vO 1) (EP.o cI)))) PL.b0)
    (PL.b1 (zRet cN))))))))

/-! wanted_names: row 0, word 1 -/
abbrev s_wanted_names : Stmt := topS 7
abbrev N_wanted_names : List Str := ["row", "word"]
theorem sc_wanted_names : FnScope N_wanted_names ["row"] (defScope s_wanted_names) := ⟨rfl, rfl, rfl, by decide +kernel, rfl, by decide +kernel, by decide +kernel⟩
def F_wanted_names : PL.Env → Option Out := (sSeq (sAsg (e2 gIx (eVarO 0) (eC (.int 0))) (tgN 1))
    (sSeq (sIf (tO (tE (e2 gEq (eVarO 1) (eC (.str "copy")))) (tE (e2 gEq (eVarO 1) (eC (.str "same"))))) (sRet (eTup (aCons (e2 gIx (eVarO 0) (eC (.int 2))) aNil))) sNext)
    (sSeq (sIf (tO (tE (e2 gEq (eVarO 1) (eC (.str "add")))) (tE (e2 gEq (eVarO 1) (eC (.str "tell"))))) (sRet (eSlT (eVarO 0) (oSome (eC (.int 1))) oNone)) sNext)
    (sRet (eTup aNil)))))
def f_wanted_names : List PyData → Option PyData := fnD 2 F_wanted_names
theorem ok_wanted_names {f : Addr} {fd : FuncData} (F : Fun K "wanted_names" "wanted_names" s_wanted_names f fd) (T : Bt mg) : FnOk P w K mg base CX0 1 f fd ["row"] (spD K 1 f_wanted_names) := by
  exact fn_den (N := N_wanted_names) F sc_wanted_names (by decide) fun cdv A outer s H E hr => by
    have hu : (A.deeper (envOfC "wanted_names" (defScope s_wanted_names) s.heap.objs.size f cdv)).units + 65 < cLine := by have := hr.un; omega
    have hv : (A.deeper (envOfC "wanted_names" (defScope s_wanted_names) s.heap.objs.size f cdv)).units + 1 < cLine := by omega
    exact ek_out (K := K) ((PL.bC (zAsg (ixx (vO 0) (EP.o cI)) (gN (S := [1]) 1 sc_wanted_names.nd))
    (PL.bC (zIf (EW.tt (wO (tcmp (kEq hu) (vO 1) (EP.o cS)) (wO1 (tcmp (kEq hu) (vO 1) (EP.o cS))))) (PL.b1 (zRet (dTup (yC (ixx (vO 0) (EP.o cI)) yN)))) PL.b0)
    (PL.bC (zIf (EW.tt (wO (tcmp (kEq hu) (vO 1) (EP.o cS)) (wO1 (tcmp (kEq hu) (vO 1) (EP.o cS))))) (PL.b1 (zRet (slT (vO 0) (qS (EP.o cI)) qN))) PL.b0)
    (PL.b1 (zRet (dTup yN)))))))

/-! wrong_by_open: row 0, plot 1 -/
abbrev s_wrong_by_open : Stmt := topS 4
abbrev N_wrong_by_open : List Str := ["row", "plot"]
theorem sc_wrong_by_open : FnScope N_wrong_by_open ["row", "plot"] (defScope s_wrong_by_open) := ⟨rfl, rfl, rfl, by decide +kernel, rfl, by decide +kernel, by decide +kernel⟩
def F_wrong_by_open : PL.Env → Option Out := (sSeq (sIf (tE (e2 gEq (e2 gIx (eVarO 0) (eC (.int 0))) (eC (.str "end")))) (sRet (eC (.str "left"))) sNext)
    (sSeq (sIf (tE (e2 gEq (eVarO 0) (eTup (aCons (eC (.str "open")) (aCons (eVar 1) aNil))))) (sRet (eC (.str "open already"))) sNext)
    (sRet (eC (.str "")))))
def f_wrong_by_open : List PyData → Option PyData := fnD 2 F_wrong_by_open
theorem ok_wrong_by_open {f : Addr} {fd : FuncData} (F : Fun K "wrong_by_open" "wrong_by_open" s_wrong_by_open f fd) (T : Bt mg) : FnOk P w K mg base CX0 1 f fd ["row", "plot"] (spD K 2 f_wrong_by_open) := by
  exact fn_den (N := N_wrong_by_open) F sc_wrong_by_open (by decide) fun cdv A outer s H E hr => by
    have hu : (A.deeper (envOfC "wrong_by_open" (defScope s_wrong_by_open) s.heap.objs.size f cdv)).units + 65 < cLine := by have := hr.un; omega
    have hv : (A.deeper (envOfC "wrong_by_open" (defScope s_wrong_by_open) s.heap.objs.size f cdv)).units + 1 < cLine := by omega
    exact ek_out (K := K) ((PL.bC (zIf (tcmp (kEq hu) (EP.o (ixx (vO 0) (EP.o cI))) (EP.o cS)) (PL.b1 (zRet cS)) PL.b0)
    (PL.bC (zIf (tcmp (kEq hu) (vO 0) (EP.o (dTup (yC cS (yC (vP 1) yN))))) (PL.b1 (zRet cS)) PL.b0)
    (PL.b1 (zRet cS)))))

/-! wrong_by_name: row 0, name 1, where 2 -/
abbrev s_wrong_by_name : Stmt := topS 5
abbrev N_wrong_by_name : List Str := ["row", "name", "where"]
theorem sc_wrong_by_name : FnScope N_wrong_by_name ["row", "name", "where"] (defScope s_wrong_by_name) := ⟨rfl, rfl, rfl, by decide +kernel, rfl, by decide +kernel, by decide +kernel⟩
def F_wrong_by_name : PL.Env → Option Out := (sSeq (sIf (tE (e2 (gInT true) (eVarO 1) (eA (fun ds => if ds.length = 1 then f_wanted_names ds else none) (aCons (eVar 0) aNil)))) (sRet (eC (.str ""))) sNext)
    (sSeq (sIf (tE (e1 (gIsN false) (eVarO 2))) (sRet (eC (.str "nothing"))) sNext)
    (sSeq (sIf (tA (tE (e2 gEq (eVarO 2) (eC (.str "")))) (tE (e2 gNe (e2 gIx (eVarO 0) (eC (.int 0))) (eC (.str "same"))))) (sRet (eC (.str "gone"))) sNext)
    (sRet (eC (.str ""))))))
def f_wrong_by_name : List PyData → Option PyData := fnD 3 F_wrong_by_name
theorem ok_wrong_by_name {f : Addr} {fd : FuncData} (F : Fun K "wrong_by_name" "wrong_by_name" s_wrong_by_name f fd) (T : Bt mg) (Cwanted_names : Cal P w K mg base 1 "wanted_names" 1 ["row"] f_wanted_names) : FnOk P w K mg base CX0 2 f fd ["row", "name", "where"] (spD K 3 f_wrong_by_name) := by
  exact fn_den (N := N_wrong_by_name) F sc_wrong_by_name (by decide) fun cdv A outer s H E hr => by
    have hu : (A.deeper (envOfC "wrong_by_name" (defScope s_wrong_by_name) s.heap.objs.size f cdv)).units + 65 < cLine := by have := hr.un; omega
    have hv : (A.deeper (envOfC "wrong_by_name" (defScope s_wrong_by_name) s.heap.objs.size f cdv)).units + 1 < cLine := by omega
    exact ek_out (K := K) ((PL.bC (zIf (tcmp kNiT (vO 1) (EP.o (cal1 Cwanted_names hr (by decide) (yC (vP 0) yN)))) (PL.b1 (zRet cS)) PL.b0)
    (PL.bC (zIf (tIsN_ (vO 2)) (PL.b1 (zRet cS)) PL.b0)
    (PL.bC (zIf (EW.tt (wA (tcmp (kEq hu) (vO 2) (EP.o cS)) (wA1 (tcmp (kNe hu) (EP.o (ixx (vO 0) (EP.o cI))) (EP.o cS))))) (PL.b1 (zRet cS)) PL.b0)
    (PL.b1 (zRet cS))))))

/-! wrong_by: plots 0, row 1, fact 2, kind 3, what 4, state 5 -/
abbrev s_wrong_by : Stmt := topS 3
abbrev N_wrong_by : List Str := ["plots", "row", "fact", "kind", "what", "state"]
theorem sc_wrong_by : FnScope N_wrong_by ["plots", "row", "fact"] (defScope s_wrong_by) := ⟨rfl, rfl, rfl, by decide +kernel, rfl, by decide +kernel, by decide +kernel⟩
def F_wrong_by : PL.Env → Option Out := (sSeq (sAsg (eVar 2) (tgT 3 (tgCons (tgN 3) (tgCons (tgN 4) (tgCons (tgN 5) tgNil)))))
    (sSeq (sIf (tE (e2 gEq (eVarO 3) (eC (.str "name")))) (sRet (eA (fun ds => if ds.length = 3 then f_wrong_by_name ds else none) (aCons (eVar 1) (aCons (eVar 4) (aCons (eVar 5) aNil))))) sNext)
    (sSeq (sIf (tE (eVarO 5)) (sRet (eA (fun ds => if ds.length = 2 then f_wrong_by_open ds else none) (aCons (eVar 1) (aCons (eVar 4) aNil)))) sNext)
    (sSeq (sIf (tE (e2 gEq (eVarO 4) (eA (fun ds => if ds.length = 2 then f_wanted_plot ds else none) (aCons (eVar 0) (aCons (eVar 1) aNil))))) (sRet (eC (.str "not open"))) sNext)
    (sRet (eC (.str "")))))))
def f_wrong_by : List PyData → Option PyData := fnD 6 F_wrong_by
theorem ok_wrong_by {f : Addr} {fd : FuncData} (F : Fun K "wrong_by" "wrong_by" s_wrong_by f fd) (T : Bt mg) (Cwrong_by_name : Cal P w K mg base 2 "wrong_by_name" 3 ["row", "name", "where"] f_wrong_by_name) (Cwrong_by_open : Cal P w K mg base 1 "wrong_by_open" 2 ["row", "plot"] f_wrong_by_open) (Cwanted_plot : Cal P w K mg base 1 "wanted_plot" 2 ["plots", "row"] f_wanted_plot) : FnOk P w K mg base CX0 3 f fd ["plots", "row", "fact"] (spD K 3 f_wrong_by) := by
  exact fn_den (N := N_wrong_by) F sc_wrong_by (by decide) fun cdv A outer s H E hr => by
    have hu : (A.deeper (envOfC "wrong_by" (defScope s_wrong_by) s.heap.objs.size f cdv)).units + 65 < cLine := by have := hr.un; omega
    have hv : (A.deeper (envOfC "wrong_by" (defScope s_wrong_by) s.heap.objs.size f cdv)).units + 1 < cLine := by omega
    exact ek_out (K := K) ((PL.bC (zAsg (S := [3, 4, 5]) (vP 2) (gT (gsC (gN 3 sc_wrong_by.nd) (gsC (gN 4 sc_wrong_by.nd) (gsC (gN 5 sc_wrong_by.nd) gs0)))))
    (PL.bC (zIf (tcmp (kEq hu) (vO 3) (EP.o cS)) (PL.b1 (zRet (cal1 Cwrong_by_name hr (by decide) (yC (vP 1) (yC (vP 4) (yC (vP 5) yN)))))) PL.b0)
    (PL.bC (zIf (tVal (vO 5)) (PL.b1 (zRet (cal1 Cwrong_by_open hr (by decide) (yC (vP 1) (yC (vP 4) yN))))) PL.b0)
    (PL.bC (zIf (tcmp (kEq hu) (vO 4) (EP.o (cal1 Cwanted_plot hr (by decide) (yC (vP 0) (yC (vP 1) yN))))) (PL.b1 (zRet cS)) PL.b0)
    (PL.b1 (zRet cS)))))))

/-! lays: row 0 -/
abbrev s_lays : Stmt := topS 11
abbrev N_lays : List Str := ["row"]
theorem sc_lays : FnScope N_lays ["row"] (defScope s_lays) := ⟨rfl, rfl, rfl, by decide +kernel, rfl, by decide +kernel, by decide +kernel⟩
def F_lays : PL.Env → Option Out := (sRet (eOrB (e2 gEq (e2 gIx (eVarO 0) (eC (.int 0))) (eC (.str "lay"))) (e2 gEq (e2 gIx (eVarO 0) (eC (.int 0))) (eC (.str "copy")))))
def f_lays : List PyData → Option PyData := fnD 1 F_lays
theorem ok_lays {f : Addr} {fd : FuncData} (F : Fun K "lays" "lays" s_lays f fd) (T : Bt mg) : FnOk P w K mg base CX0 1 f fd ["row"] (spD K 1 f_lays) := by
  exact fn_den (N := N_lays) F sc_lays (by decide) fun cdv A outer s H E hr => by
    have hu : (A.deeper (envOfC "lays" (defScope s_lays) s.heap.objs.size f cdv)).units + 65 < cLine := by have := hr.un; omega
    have hv : (A.deeper (envOfC "lays" (defScope s_lays) s.heap.objs.size f cdv)).units + 1 < cLine := by omega
    exact ek_out (K := K) ((PL.b1 (zRet (vOr (EP.o (cmp (kEq hu) (EP.o (ixx (vO 0) (EP.o cI))) (EP.o cS))) (vOne (cmp (kEq hu) (EP.o (ixx (vO 0) (EP.o cI))) (EP.o cS)))))))

/-! gives_back: plots 0, row 1, plot 2 -/
abbrev s_gives_back : Stmt := topS 12
abbrev N_gives_back : List Str := ["plots", "row", "plot"]
theorem sc_gives_back : FnScope N_gives_back ["plots", "row", "plot"] (defScope s_gives_back) := ⟨rfl, rfl, rfl, by decide +kernel, rfl, by decide +kernel, by decide +kernel⟩
def F_gives_back : PL.Env → Option Out := (sRet (eAndB (e2 gEq (e2 gIx (eVarO 1) (eC (.int 0))) (eC (.str "give"))) (e2 (gInL false) (e2 gIx (eVarO 1) (eC (.int 1))) (eL (fun env => ((aCons (eVar 0) (aCons (eVar 2) aNil)) env).bind fun ds => if ds.length = 2 then f_outward ds else none)))))
def f_gives_back : List PyData → Option PyData := fnD 3 F_gives_back
theorem ok_gives_back {f : Addr} {fd : FuncData} (F : Fun K "gives_back" "gives_back" s_gives_back f fd) (T : Bt mg) (Coutward : CalN P w K mg base 1 "outward" 2 ["plots", "plot"] f_outward) : FnOk P w K mg base CX0 2 f fd ["plots", "row", "plot"] (spD K 3 f_gives_back) := by
  exact fn_den (N := N_gives_back) F sc_gives_back (by decide) fun cdv A outer s H E hr => by
    have hu : (A.deeper (envOfC "gives_back" (defScope s_gives_back) s.heap.objs.size f cdv)).units + 65 < cLine := by have := hr.un; omega
    have hv : (A.deeper (envOfC "gives_back" (defScope s_gives_back) s.heap.objs.size f cdv)).units + 1 < cLine := by omega
    exact ek_out (K := K) ((PL.b1 (zRet (vAnd (EP.o (cmp (kEq hu) (EP.o (ixx (vO 1) (EP.o cI))) (EP.o cS))) (vOne (cmp (kInL hu) (EP.o (ixx (vO 1) (EP.o cI))) (EN.o (cal1N Coutward hr (by decide) (yC (vP 0) (yC (vP 2) yN))))))))))

/-! behind_plot: plots 0, row 1, fact 2, plot 3 -/
abbrev s_behind_plot : Stmt := topS 9
abbrev N_behind_plot : List Str := ["plots", "row", "fact", "plot"]
theorem sc_behind_plot : FnScope N_behind_plot ["plots", "row", "fact"] (defScope s_behind_plot) := ⟨rfl, rfl, rfl, by decide +kernel, rfl, by decide +kernel, by decide +kernel⟩
def F_behind_plot : PL.Env → Option Out := (sSeq (sAsg (e2 gIx (eVarO 2) (eC (.int 1))) (tgN 3))
    (sSeq (sIf (tE (e2 gEq (eVarO 1) (eTup (aCons (eC (.str "open")) (aCons (eVar 3) aNil))))) (sRetN (nLst (aCons (eTup (aCons (eC (.str "plot")) (aCons (eVar 3) (aCons (eC (.bool true)) aNil)))) aNil))) sNext)
    (sSeq (sIf (tE (eA (fun ds => if ds.length = 3 then f_gives_back ds else none) (aCons (eVar 0) (aCons (eVar 1) (aCons (eVar 3) aNil))))) (sRetN (nLst (aCons (eTup (aCons (eC (.str "plot")) (aCons (eVar 3) (aCons (eC (.bool false)) aNil)))) aNil))) sNext)
    (sSeq (sIf (tA (tE (eA (fun ds => if ds.length = 1 then f_lays ds else none) (aCons (eVar 1) aNil))) (tE (e2 gEq (eA (fun ds => if ds.length = 2 then f_wanted_plot ds else none) (aCons (eVar 0) (aCons (eVar 1) aNil))) (eVarO 3)))) (sRetN (nLst (aCons (eVar 2) (aCons (eTup (aCons (eC (.str "name")) (aCons (e2 gIx (eVarO 1) (eC (.int 1))) (aCons (eVar 3) aNil)))) aNil)))) sNext)
    (sRetN (nLst (aCons (eVar 2) aNil)))))))
def f_behind_plot : List PyData → Option (List PyData) := fnN 4 F_behind_plot
theorem ok_behind_plot {f : Addr} {fd : FuncData} (F : Fun K "behind_plot" "behind_plot" s_behind_plot f fd) (T : Bt mg) (Cgives_back : Cal P w K mg base 2 "gives_back" 3 ["plots", "row", "plot"] f_gives_back) (Cwanted_plot : Cal P w K mg base 1 "wanted_plot" 2 ["plots", "row"] f_wanted_plot) (Clays : Cal P w K mg base 1 "lays" 1 ["row"] f_lays) : FnOk P w K mg base CX0 3 f fd ["plots", "row", "fact"] (spN K 3 f_behind_plot) := by
  exact fn_denN (N := N_behind_plot) F sc_behind_plot (by decide) fun cdv A outer s H E hr => by
    have hu : (A.deeper (envOfC "behind_plot" (defScope s_behind_plot) s.heap.objs.size f cdv)).units + 65 < cLine := by have := hr.un; omega
    have hv : (A.deeper (envOfC "behind_plot" (defScope s_behind_plot) s.heap.objs.size f cdv)).units + 1 < cLine := by omega
    exact ek_out (K := K) ((PL.bC (zAsg (ixx (vO 2) (EP.o cI)) (gN (S := [3]) 3 sc_behind_plot.nd))
    (PL.bC (zIf (tcmp (kEq hu) (vO 1) (EP.o (dTup (yC cS (yC (vP 3) yN))))) (PL.b1 (zRetN (dLst (yC (dTup (yC cS (yC (vP 3) (yC cB yN)))) yN)))) PL.b0)
    (PL.bC (zIf (tVal (EP.o (cal1 Cgives_back hr (by decide) (yC (vP 0) (yC (vP 1) (yC (vP 3) yN)))))) (PL.b1 (zRetN (dLst (yC (dTup (yC cS (yC (vP 3) (yC cB yN)))) yN)))) PL.b0)
    (PL.bC (zIf (EW.tt (wA (tVal (EP.o (cal1 Clays hr (by decide) (yC (vP 1) yN)))) (wA1 (tcmp (kEq hu) (EP.o (cal1 Cwanted_plot hr (by decide) (yC (vP 0) (yC (vP 1) yN)))) (vO 3))))) (PL.b1 (zRetN (dLst (yC (vP 2) (yC (dTup (yC cS (yC (ixx (vO 1) (EP.o cI)) (yC (vP 3) yN)))) yN))))) PL.b0)
    (PL.b1 (zRetN (dLst (yC (vP 2) yN)))))))))

/-! behind_name: plots 0, row 1, fact 2, name 3, where 4 -/
abbrev s_behind_name : Stmt := topS 10
abbrev N_behind_name : List Str := ["plots", "row", "fact", "name", "where"]
theorem sc_behind_name : FnScope N_behind_name ["plots", "row", "fact"] (defScope s_behind_name) := ⟨rfl, rfl, rfl, by decide +kernel, rfl, by decide +kernel, by decide +kernel⟩
def F_behind_name : PL.Env → Option Out := (sSeq (sAsg (e2 gIx (eVarO 2) (eC (.int 1))) (tgN 3))
    (sSeq (sAsg (e2 gIx (eVarO 2) (eC (.int 2))) (tgN 4))
    (sSeq (sIf (tA (tE (e2 gEq (e2 gIx (eVarO 1) (eC (.int 0))) (eC (.str "same")))) (tA (tE (e2 gEq (e2 gIx (eVarO 1) (eC (.int 2))) (eVarO 3))) (tE (e2 gNe (e2 gIx (eVarO 1) (eC (.int 1))) (eVarO 3))))) (sRetN (nLst (aCons (eVar 2) (aCons (eTup (aCons (eC (.str "name")) (aCons (e2 gIx (eVarO 1) (eC (.int 1))) (aCons (eVar 4) aNil)))) aNil)))) sNext)
    (sSeq (sIf (tA (tE (e2 gEq (e2 gIx (eVarO 1) (eC (.int 0))) (eC (.str "same")))) (tA (tE (e2 gEq (e2 gIx (eVarO 1) (eC (.int 1))) (eVarO 3))) (tE (e2 gNe (e2 gIx (eVarO 1) (eC (.int 2))) (eVarO 3))))) (sRetN (nLst aNil)) sNext)
    (sSeq (sIf (tA (tE (eA (fun ds => if ds.length = 1 then f_lays ds else none) (aCons (eVar 1) aNil))) (tE (e2 gEq (e2 gIx (eVarO 1) (eC (.int 1))) (eVarO 3)))) (sRetN (nLst aNil)) sNext)
    (sSeq (sIf (tA (tV (eVarO 4)) (tE (eA (fun ds => if ds.length = 3 then f_gives_back ds else none) (aCons (eVar 0) (aCons (eVar 1) (aCons (eVar 4) aNil)))))) (sRetN (nLst (aCons (eTup (aCons (eC (.str "name")) (aCons (eVar 3) (aCons (eC (.str "")) aNil)))) aNil))) sNext)
    (sRetN (nLst (aCons (eVar 2) aNil)))))))))
def f_behind_name : List PyData → Option (List PyData) := fnN 5 F_behind_name
theorem ok_behind_name {f : Addr} {fd : FuncData} (F : Fun K "behind_name" "behind_name" s_behind_name f fd) (T : Bt mg) (Clays : Cal P w K mg base 1 "lays" 1 ["row"] f_lays) (Cgives_back : Cal P w K mg base 2 "gives_back" 3 ["plots", "row", "plot"] f_gives_back) : FnOk P w K mg base CX0 3 f fd ["plots", "row", "fact"] (spN K 3 f_behind_name) := by
  exact fn_denN (N := N_behind_name) F sc_behind_name (by decide) fun cdv A outer s H E hr => by
    have hu : (A.deeper (envOfC "behind_name" (defScope s_behind_name) s.heap.objs.size f cdv)).units + 65 < cLine := by have := hr.un; omega
    have hv : (A.deeper (envOfC "behind_name" (defScope s_behind_name) s.heap.objs.size f cdv)).units + 1 < cLine := by omega
    exact ek_out (K := K) ((PL.bC (zAsg (ixx (vO 2) (EP.o cI)) (gN (S := [3]) 3 sc_behind_name.nd))
    (PL.bC (zAsg (ixx (vO 2) (EP.o cI)) (gN (S := [4]) 4 sc_behind_name.nd))
    (PL.bC (zIf (EW.tt (wA (tcmp (kEq hu) (EP.o (ixx (vO 1) (EP.o cI))) (EP.o cS)) (wA (tcmp (kEq hu) (EP.o (ixx (vO 1) (EP.o cI))) (vO 3)) (wA1 (tcmp (kNe hu) (EP.o (ixx (vO 1) (EP.o cI))) (vO 3)))))) (PL.b1 (zRetN (dLst (yC (vP 2) (yC (dTup (yC cS (yC (ixx (vO 1) (EP.o cI)) (yC (vP 4) yN)))) yN))))) PL.b0)
    (PL.bC (zIf (EW.tt (wA (tcmp (kEq hu) (EP.o (ixx (vO 1) (EP.o cI))) (EP.o cS)) (wA (tcmp (kEq hu) (EP.o (ixx (vO 1) (EP.o cI))) (vO 3)) (wA1 (tcmp (kNe hu) (EP.o (ixx (vO 1) (EP.o cI))) (vO 3)))))) (PL.b1 (zRetN (dLst yN))) PL.b0)
    (PL.bC (zIf (EW.tt (wA (tVal (EP.o (cal1 Clays hr (by decide) (yC (vP 1) yN)))) (wA1 (tcmp (kEq hu) (EP.o (ixx (vO 1) (EP.o cI))) (vO 3))))) (PL.b1 (zRetN (dLst yN))) PL.b0)
    (PL.bC (zIf (EW.tt (wA (tTru_ (vO 4)) (wA1 (tVal (EP.o (cal1 Cgives_back hr (by decide) (yC (vP 0) (yC (vP 1) (yC (vP 4) yN))))))))) (PL.b1 (zRetN (dLst (yC (dTup (yC cS (yC (vP 3) (yC cS yN)))) yN)))) PL.b0)
    (PL.b1 (zRetN (dLst (yC (vP 2) yN)))))))))))

/-! behind: plots 0, row 1, fact 2 -/
abbrev s_behind : Stmt := topS 8
abbrev N_behind : List Str := ["plots", "row", "fact"]
theorem sc_behind : FnScope N_behind ["plots", "row", "fact"] (defScope s_behind) := ⟨rfl, rfl, rfl, by decide +kernel, rfl, by decide +kernel, by decide +kernel⟩
def F_behind : PL.Env → Option Out := (sSeq (sIf (tE (e2 gEq (e2 gIx (eVarO 2) (eC (.int 0))) (eC (.str "name")))) (sRetN (fun env => ((aCons (eVar 0) (aCons (eVar 1) (aCons (eVar 2) aNil))) env).bind fun ds => if ds.length = 3 then f_behind_name ds else none)) sNext)
    (sRetN (fun env => ((aCons (eVar 0) (aCons (eVar 1) (aCons (eVar 2) aNil))) env).bind fun ds => if ds.length = 3 then f_behind_plot ds else none)))
def f_behind : List PyData → Option (List PyData) := fnN 3 F_behind
theorem ok_behind {f : Addr} {fd : FuncData} (F : Fun K "behind" "behind" s_behind f fd) (T : Bt mg) (Cbehind_name : CalN P w K mg base 3 "behind_name" 3 ["plots", "row", "fact"] f_behind_name) (Cbehind_plot : CalN P w K mg base 3 "behind_plot" 3 ["plots", "row", "fact"] f_behind_plot) : FnOk P w K mg base CX0 4 f fd ["plots", "row", "fact"] (spN K 3 f_behind) := by
  exact fn_denN (N := N_behind) F sc_behind (by decide) fun cdv A outer s H E hr => by
    have hu : (A.deeper (envOfC "behind" (defScope s_behind) s.heap.objs.size f cdv)).units + 65 < cLine := by have := hr.un; omega
    have hv : (A.deeper (envOfC "behind" (defScope s_behind) s.heap.objs.size f cdv)).units + 1 < cLine := by omega
    exact ek_out (K := K) ((PL.bC (zIf (tcmp (kEq hu) (EP.o (ixx (vO 2) (EP.o cI))) (EP.o cS)) (PL.b1 (zRetN (cal1N Cbehind_name hr (by decide) (yC (vP 0) (yC (vP 1) (yC (vP 2) yN)))))) PL.b0)
    (PL.b1 (zRetN (cal1N Cbehind_plot hr (by decide) (yC (vP 0) (yC (vP 1) (yC (vP 2) yN))))))))

/-! _law_at: _law_script 0, _law_k 1 -/
abbrev s__law_at : Stmt := topS 14
abbrev N__law_at : List Str := ["_law_script", "_law_k"]
theorem sc__law_at : FnScope N__law_at ["_law_script", "_law_k"] (defScope s__law_at) := ⟨rfl, rfl, rfl, by decide +kernel, rfl, by decide +kernel, by decide +kernel⟩
def F__law_at : PL.Env → Option Out := (sSeq (sIf (tE (e2 (gB fun i j => decide (i < j)) (eVarO 1) (eA gLen (aCons (eVarO 0) aNil)))) (sRet (e2 gIx (eVarO 0) (eVarO 1))) sNext)
    (sRet (eC (.int 0))))
def f__law_at : List PyData → Option PyData := fnD 2 F__law_at
theorem ok__law_at {f : Addr} {fd : FuncData} (F : Fun K "_law_at" "_law_at" s__law_at f fd) (T : Bt mg) : FnOk P w K mg base CX0 1 f fd ["_law_script", "_law_k"] (spD K 2 f__law_at) := by
  exact fn_den (N := N__law_at) F sc__law_at (by decide) fun cdv A outer s H E hr => by
    have hu : (A.deeper (envOfC "_law_at" (defScope s__law_at) s.heap.objs.size f cdv)).units + 65 < cLine := by have := hr.un; omega
    have hv : (A.deeper (envOfC "_law_at" (defScope s__law_at) s.heap.objs.size f cdv)).units + 1 < cLine := by omega
    exact ek_out (K := K) ((PL.bC (zIf (tcmp kLt (vO 1) (EP.o (fLen T.len (ha := (xC (vO 0) xN))))) (PL.b1 (zRet (ixx (vO 0) (vO 1)))) PL.b0)
    (PL.b1 (zRet cI))))

/-! _law_called: _law_cell 0, _law_k 1, _law_signs 2, _law_letters 3, _law_turned 4, _law_size 5, _law_tail 6, _law_at_here 7, _law_j 8 -/
abbrev s__law_called : Stmt := topS 15
abbrev N__law_called : List Str := ["_law_cell", "_law_k", "_law_signs", "_law_letters", "_law_turned", "_law_size", "_law_tail", "_law_at_here", "_law_j"]
theorem sc__law_called : FnScope N__law_called ["_law_cell", "_law_k", "_law_signs"] (defScope s__law_called) := ⟨rfl, rfl, rfl, by decide +kernel, rfl, by decide +kernel, by decide +kernel⟩
def F__law_called : PL.Env → Option Out := (sSeq (sAsg (eC (.str "abcdefghijklmnopqrstuvwxyz")) (tgN 3))
    (sSeq (sAsg (e2 gAdd (eVarO 0) (e2 (gIC cMul (· * ·)) (e2 (gIC cMul (· * ·)) (eC (.int 31)) (eVarO 1)) (e2 (gIC cMod (· % ·)) (eVarO 0) (eC (.int 2))))) (tgN 4))
    (sSeq (sAsg (e2 (gIC cMod (· % ·)) (e2 (gIC cDiv (· / ·)) (eVarO 4) (eC (.int 26))) (e2 (gI (· - ·)) (eC (.int 9)) (eA gLen (aCons (eVarO 2) aNil)))) (tgN 5))
    (sSeq (sAsg (e2 gJoin (eC (.str "")) (eL (nLc (iR1 (aCons (eVarO 5) aNil)) (tgN 8) (fun _ => some true) (e2 gIx (eVarO 3) (e2 (gIC cMod (· % ·)) (e2 gAdd (eVarO 4) (e2 (gIC cMul (· * ·)) (e2 (gIC cMul (· * ·)) (eC (.int 5)) (eVarO 8)) (e2 gAdd (eC (.int 1)) (e2 (gIC cMod (· % ·)) (eVarO 4) (eC (.int 3)))))) (eC (.int 26)))) [8]))) (tgN 6))
    (sSeq (sAsg (eVar 5) (tgN 7))
    (sSeq (sIf (tE (e2 gEq (e2 (gIC cMod (· % ·)) (eVarO 0) (eC (.int 2))) (eC (.int 0)))) (sAsg (e2 (gIC cMod (· % ·)) (e2 (gIC cDiv (· / ·)) (eVarO 0) (eC (.int 4))) (e2 gAdd (eVarO 5) (eC (.int 1)))) (tgN 7)) sNext)
    (sRet (e2 gAdd (e2 gAdd (eSlS (eVarO 6) oNone (oSome (eVarO 7))) (eVarO 2)) (eSlS (eVarO 6) (oSome (eVarO 7)) oNone)))))))))
def f__law_called : List PyData → Option PyData := fnD 9 F__law_called
theorem ok__law_called {f : Addr} {fd : FuncData} (F : Fun K "_law_called" "_law_called" s__law_called f fd) (T : Bt mg) : FnOk P w K mg base CX0 1 f fd ["_law_cell", "_law_k", "_law_signs"] (spD K 3 f__law_called) := by
  exact fn_den (N := N__law_called) F sc__law_called (by decide) fun cdv A outer s H E hr => by
    have hu : (A.deeper (envOfC "_law_called" (defScope s__law_called) s.heap.objs.size f cdv)).units + 65 < cLine := by have := hr.un; omega
    have hv : (A.deeper (envOfC "_law_called" (defScope s__law_called) s.heap.objs.size f cdv)).units + 1 < cLine := by omega
    exact ek_out (K := K) ((PL.bC (zAsg cS (gN (S := [3]) 3 sc__law_called.nd))
    (PL.bC (zAsg (bAdd (vO 0) (EP.o (bMul (EP.o (bMul (EP.o cI) (vO 1))) (EP.o (bMod (vO 0) (EP.o cI)))))) (gN (S := [4]) 4 sc__law_called.nd))
    (PL.bC (zAsg (bMod (EP.o (bDiv (vO 4) (EP.o cI))) (EP.o (bSub (EP.o cI) (EP.o (fLen T.len (ha := (xC (vO 2) xN))))))) (gN (S := [5]) 5 sc__law_called.nd))
    (PL.bC (zAsg (fJoin (EP.o cS) (EN.o (lcp [("_law_j", 8)] s sc__law_called.nd (EI.j (iRa T.range (xC (vO 5) xN))) (blkOk_by (own := [("_law_j", 8)]) (N := N__law_called) (sc := defScope s__law_called) (by decide +kernel)) (fun _ _ _ _ _ => (gN 8 sc__law_called.nd)) (fun _ _ _ _ _ => ts0) (fun _ _ _ _ _ => (ixx (vO 3) (EP.o (bMod (EP.o (bAdd (vO 4) (EP.o (bMul (EP.o (bMul (EP.o cI) (vO 8))) (EP.o (bAdd (EP.o cI) (EP.o (bMod (vO 4) (EP.o cI))))))))) (EP.o cI)))))))) (gN (S := [6]) 6 sc__law_called.nd))
    (PL.bC (zAsg (vP 5) (gN (S := [7]) 7 sc__law_called.nd))
    (PL.bC (zIf (tcmp (kEq hu) (EP.o (bMod (vO 0) (EP.o cI))) (EP.o cI)) (PL.b1 (zAsg (bMod (EP.o (bDiv (vO 0) (EP.o cI))) (EP.o (bAdd (vO 5) (EP.o cI)))) (gN (S := [7]) 7 sc__law_called.nd))) PL.b0)
    (PL.b1 (zRet (bAdd (EP.o (bAdd (EP.o (slS (vO 6) qN (qS (vO 7)))) (vO 2))) (EP.o (slS (vO 6) (qS (vO 7)) qN))))))))))))

/-! _law_plots: _law_script 0, _law_many 1, _law_plots_here 2, _law_k 3, _law_pick 4, _law_outer 5 -/
abbrev s__law_plots : Stmt := topS 16
abbrev N__law_plots : List Str := ["_law_script", "_law_many", "_law_plots_here", "_law_k", "_law_pick", "_law_outer"]
theorem sc__law_plots : FnScope N__law_plots ["_law_script"] (defScope s__law_plots) := ⟨rfl, rfl, rfl, by decide +kernel, rfl, by decide +kernel, by decide +kernel⟩
def F__law_plots : PL.Env → Option Out := (sSeq (sAsg (e2 gAdd (eC (.int 1)) (e2 (gIC cMod (· % ·)) (eA (fun ds => if ds.length = 2 then f__law_at ds else none) (aCons (eVar 0) (aCons (eC (.int 0)) aNil))) (eC (.int 4)))) (tgN 1))
    (sSeq (sIf (tE (e2 gEq (e2 (gIC cMod (· % ·)) (e2 (gIC cDiv (· / ·)) (eA (fun ds => if ds.length = 2 then f__law_at ds else none) (aCons (eVar 0) (aCons (eC (.int 0)) aNil))) (eC (.int 4))) (eC (.int 8))) (eC (.int 1)))) (sAsg (e2 (gI (· - ·)) (eC (.int 12)) (e2 (gIC cMod (· % ·)) (e2 (gIC cDiv (· / ·)) (eA (fun ds => if ds.length = 2 then f__law_at ds else none) (aCons (eVar 0) (aCons (eC (.int 0)) aNil))) (eC (.int 32))) (eC (.int 8)))) (tgN 1)) sNext)
    (sSeq (sOwn (nLst aNil) 2)
    (sSeq (sFor (iR1 (aCons (eVarO 1) aNil)) (tgN 3) (sSeq (sAsg (e2 (gIC cMod (· % ·)) (e2 (gIC cMod (· % ·)) (e2 (gIC cMul (· * ·)) (e2 gAdd (eA (fun ds => if ds.length = 2 then f__law_at ds else none) (aCons (eVar 0) (aCons (eC (.int 1)) aNil))) (e2 (gIC cMul (· * ·)) (eC (.int 7)) (eVarO 3))) (eC (.int 48271))) (eC (.int 10007))) (e2 gAdd (eVarO 3) (eC (.int 1)))) (tgN 4))
    (sSeq (sIf (tA (tE (e2 gEq (e2 (gIC cMod (· % ·)) (eA (fun ds => if ds.length = 2 then f__law_at ds else none) (aCons (eVar 0) (aCons (eC (.int 1)) aNil))) (eC (.int 4))) (eC (.int 3)))) (tE (e2 (gB fun i j => decide (j < i)) (eVarO 3) (eC (.int 0))))) (sAsg (e2 (gI (· - ·)) (eVarO 3) (eC (.int 1))) (tgN 4)) sNext)
    (sSeq (sAsg (eC .none) (tgN 5))
    (sSeq (sIf (tE (e2 (gB fun i j => decide (i < j)) (eVarO 4) (eVarO 3))) (sAsg (e2 gIx (e2 gIx (eVarO 2) (eVarO 4)) (eC (.int 0))) (tgN 5)) sNext)
    (sApp 2 (eTup (aCons (eA (fun ds => if ds.length = 3 then f__law_called ds else none) (aCons (e2 (gIC cDiv (· / ·)) (eA (fun ds => if ds.length = 2 then f__law_at ds else none) (aCons (eVar 0) (aCons (eC (.int 1)) aNil))) (eC (.int 3))) (aCons (eVar 3) (aCons (e2 gIx (eC (.str "abcdefghijkl")) (eVarO 3)) aNil)))) (aCons (eVar 5) aNil)))))))))
    (sRetO 2)))))
def f__law_plots : List PyData → Option (List PyData) := fnN 6 F__law_plots
theorem ok__law_plots {f : Addr} {fd : FuncData} (F : Fun K "_law_plots" "_law_plots" s__law_plots f fd) (T : Bt mg) (C_law_at : Cal P w K mg base 1 "_law_at" 2 ["_law_script", "_law_k"] f__law_at) (C_law_called : Cal P w K mg base 1 "_law_called" 3 ["_law_cell", "_law_k", "_law_signs"] f__law_called) : FnOk P w K mg base CX0 2 f fd ["_law_script"] (spN K 1 f__law_plots) := by
  exact fn_denN (N := N__law_plots) F sc__law_plots (by decide) fun cdv A outer s H E hr => by
    have hu : (A.deeper (envOfC "_law_plots" (defScope s__law_plots) s.heap.objs.size f cdv)).units + 65 < cLine := by have := hr.un; omega
    have hv : (A.deeper (envOfC "_law_plots" (defScope s__law_plots) s.heap.objs.size f cdv)).units + 1 < cLine := by omega
    exact ek_out (K := K) ((PL.bC (zAsg (bAdd (EP.o cI) (EP.o (bMod (EP.o (cal1 C_law_at hr (by decide) (yC (vP 0) (yC cI yN)))) (EP.o cI)))) (gN (S := [1]) 1 sc__law_plots.nd))
    (PL.bC (zIf (tcmp (kEq hu) (EP.o (bMod (EP.o (bDiv (EP.o (cal1 C_law_at hr (by decide) (yC (vP 0) (yC cI yN)))) (EP.o cI))) (EP.o cI))) (EP.o cI)) (PL.b1 (zAsg (bSub (EP.o cI) (EP.o (bMod (EP.o (bDiv (EP.o (cal1 C_law_at hr (by decide) (yC (vP 0) (yC cI yN)))) (EP.o cI))) (EP.o cI)))) (gN (S := [1]) 1 sc__law_plots.nd))) PL.b0)
    (PL.bC (zOwn 2 sc__law_plots.nd (dLst yN))
    (PL.bC (zFor (S := [3]) PassesOwn.never (iRa T.range (xC (vO 1) xN)) (gN 3 sc__law_plots.nd) (PL.bC (zAsg (bMod (EP.o (bMod (EP.o (bMul (EP.o (bAdd (EP.o (cal1 C_law_at hr (by decide) (yC (vP 0) (yC cI yN)))) (EP.o (bMul (EP.o cI) (vO 3))))) (EP.o cI))) (EP.o cI))) (EP.o (bAdd (vO 3) (EP.o cI)))) (gN (S := [4]) 4 sc__law_plots.nd))
    (PL.bC (zIf (EW.tt (wA (tcmp (kEq hu) (EP.o (bMod (EP.o (cal1 C_law_at hr (by decide) (yC (vP 0) (yC cI yN)))) (EP.o cI))) (EP.o cI)) (wA1 (tcmp kGt (vO 3) (EP.o cI))))) (PL.b1 (zAsg (bSub (vO 3) (EP.o cI)) (gN (S := [4]) 4 sc__law_plots.nd))) PL.b0)
    (PL.bC (zAsg cN (gN (S := [5]) 5 sc__law_plots.nd))
    (PL.bC (zIf (tcmp kLt (vO 4) (vO 3)) (PL.b1 (zAsg (ixx (EP.o (ixx (vO 2) (vO 4))) (EP.o cI)) (gN (S := [5]) 5 sc__law_plots.nd))) PL.b0)
    (PL.b1 (zApp 2 (vO 2) (dTup (yC (cal1 C_law_called hr (by decide) (yC (bDiv (EP.o (cal1 C_law_at hr (by decide) (yC (vP 0) (yC cI yN)))) (EP.o cI)) (yC (vP 3) (yC (ixx (EP.o cS) (vO 3)) yN)))) (yC (vP 5) yN))))))))))
    (PL.b1 (zRetO 2 (vO 2))))))))

/-! _law_names: _law_script 0, _law_plots_here 1, _law_cell 2, _law_many 3, _law_ends 4, _law_k 5, _law_plot 6, _law_outer 7 -/
abbrev s__law_names : Stmt := topS 17
abbrev N__law_names : List Str := ["_law_script", "_law_plots_here", "_law_cell", "_law_many", "_law_ends", "_law_k", "_law_plot", "_law_outer"]
theorem sc__law_names : FnScope N__law_names ["_law_script", "_law_plots_here"] (defScope s__law_names) := ⟨rfl, rfl, rfl, by decide +kernel, rfl, by decide +kernel, by decide +kernel⟩
def F__law_names : PL.Env → Option Out := (sSeq (sAsg (eA (fun ds => if ds.length = 2 then f__law_at ds else none) (aCons (eVar 0) (aCons (eC (.int 2)) aNil))) (tgN 2))
    (sSeq (sAsg (e2 gAdd (eC (.int 1)) (e2 (gIC cMod (· % ·)) (eVarO 2) (eC (.int 5)))) (tgN 3))
    (sSeq (sIf (tE (e2 gEq (e2 (gIC cMod (· % ·)) (e2 (gIC cDiv (· / ·)) (eVarO 2) (eC (.int 5))) (eC (.int 16))) (eC (.int 3)))) (sAsg (eC (.int 60)) (tgN 3)) sNext)
    (sSeq (sIf (tE (e2 gEq (e2 (gIC cMod (· % ·)) (e2 (gIC cDiv (· / ·)) (eVarO 2) (eC (.int 5))) (eC (.int 4))) (eC (.int 1)))) (sRetN (nSl (eL (nLc (iLS (eVarO 1)) (tgT 2 (tgCons (tgN 6) (tgCons (tgN 7) tgNil))) (fun _ => some true) (eVar 6) [6, 7])) oNone (oSome (eVarO 3)))) sNext)
    (sSeq (sAsg (eC (.str "zyxwvutsrqponmlkjihgfedcba")) (tgN 4))
    (sRetN (nLc (iR1 (aCons (eVarO 3) aNil)) (tgN 5) (fun _ => some true) (eA (fun ds => if ds.length = 3 then f__law_called ds else none) (aCons (e2 (gIC cDiv (· / ·)) (eVarO 2) (eC (.int 80))) (aCons (eVar 5) (aCons (e2 gAdd (e2 gIx (eC (.str "abc")) (e2 (gIC cDiv (· / ·)) (eVarO 5) (eC (.int 26)))) (e2 gIx (eVarO 4) (e2 (gIC cMod (· % ·)) (eVarO 5) (eC (.int 26))))) aNil)))) [5])))))))
def f__law_names : List PyData → Option (List PyData) := fnN 8 F__law_names
theorem ok__law_names {f : Addr} {fd : FuncData} (F : Fun K "_law_names" "_law_names" s__law_names f fd) (T : Bt mg) (C_law_at : Cal P w K mg base 1 "_law_at" 2 ["_law_script", "_law_k"] f__law_at) (C_law_called : Cal P w K mg base 1 "_law_called" 3 ["_law_cell", "_law_k", "_law_signs"] f__law_called) : FnOk P w K mg base CX0 2 f fd ["_law_script", "_law_plots_here"] (spN K 2 f__law_names) := by
  exact fn_denN (N := N__law_names) F sc__law_names (by decide) fun cdv A outer s H E hr => by
    have hu : (A.deeper (envOfC "_law_names" (defScope s__law_names) s.heap.objs.size f cdv)).units + 65 < cLine := by have := hr.un; omega
    have hv : (A.deeper (envOfC "_law_names" (defScope s__law_names) s.heap.objs.size f cdv)).units + 1 < cLine := by omega
    exact ek_out (K := K) ((PL.bC (zAsg (cal1 C_law_at hr (by decide) (yC (vP 0) (yC cI yN))) (gN (S := [2]) 2 sc__law_names.nd))
    (PL.bC (zAsg (bAdd (EP.o cI) (EP.o (bMod (vO 2) (EP.o cI)))) (gN (S := [3]) 3 sc__law_names.nd))
    (PL.bC (zIf (tcmp (kEq hu) (EP.o (bMod (EP.o (bDiv (vO 2) (EP.o cI))) (EP.o cI))) (EP.o cI)) (PL.b1 (zAsg cI (gN (S := [3]) 3 sc__law_names.nd))) PL.b0)
    (PL.bC (zIf (tcmp (kEq hu) (EP.o (bMod (EP.o (bDiv (vO 2) (EP.o cI))) (EP.o cI))) (EP.o cI)) (PL.b1 (zRetN (slL (EN.o (lcp [("_law_plot", 6), ("_law_outer", 7)] s sc__law_names.nd (jL (vO 1)) (blkOk_by (own := [("_law_plot", 6), ("_law_outer", 7)]) (N := N__law_names) (sc := defScope s__law_names) (by decide +kernel)) (fun _ _ _ _ _ => (gT (gsC (gN 6 sc__law_names.nd) (gsC (gN 7 sc__law_names.nd) gs0)))) (fun _ _ _ _ _ => ts0) (fun _ _ _ _ _ => (vP 6)))) qN (qS (vO 3))))) PL.b0)
    (PL.bC (zAsg cS (gN (S := [4]) 4 sc__law_names.nd))
    (PL.b1 (zRetN (lcp [("_law_k", 5)] s sc__law_names.nd (EI.j (iRa T.range (xC (vO 3) xN))) (blkOk_by (own := [("_law_k", 5)]) (N := N__law_names) (sc := defScope s__law_names) (by decide +kernel)) (fun _ _ _ _ _ => (gN 5 sc__law_names.nd)) (fun _ _ _ _ _ => ts0) (fun _ _ _ _ _ => (cal1 C_law_called hr (by decide) (yC (bDiv (vO 2) (EP.o cI)) (yC (vP 5) (yC (bAdd (EP.o (ixx (EP.o cS) (EP.o (bDiv (vO 5) (EP.o cI))))) (EP.o (ixx (vO 4) (EP.o (bMod (vO 5) (EP.o cI)))))) yN))))))))))))))

/-! _law_row: _law_cell 0, _law_plots_here 1, _law_names_here 2, _law_size 3, _law_more 4, _law_name 5, _law_other 6, _law_plot 7, _law_number 8, _law_place 9, _law_kind 10 -/
abbrev s__law_row : Stmt := topS 18
abbrev N__law_row : List Str := ["_law_cell", "_law_plots_here", "_law_names_here", "_law_size", "_law_more", "_law_name", "_law_other", "_law_plot", "_law_number", "_law_place", "_law_kind"]
theorem sc__law_row : FnScope N__law_row ["_law_cell", "_law_plots_here", "_law_names_here", "_law_size"] (defScope s__law_row) := ⟨rfl, rfl, rfl, by decide +kernel, rfl, by decide +kernel, by decide +kernel⟩
def F__law_row : PL.Env → Option Out := (sSeq (sAsg (e2 (gIC cMod (· % ·)) (e2 gAdd (e2 (gIC cMul (· * ·)) (e2 (gIC cDiv (· / ·)) (eVarO 0) (eC (.int 10))) (eC (.int 48271))) (eC (.int 11))) (eC (.int 1000003))) (tgN 4))
    (sSeq (sAsg (e2 gIx (eVarO 2) (e2 (gIC cMod (· % ·)) (eVarO 4) (eA gLen (aCons (eVarO 2) aNil)))) (tgN 5))
    (sSeq (sAsg (e2 gIx (eVarO 2) (e2 (gIC cMod (· % ·)) (e2 (gIC cDiv (· / ·)) (eVarO 4) (eC (.int 7))) (eA gLen (aCons (eVarO 2) aNil)))) (tgN 6))
    (sSeq (sAsg (e2 gIx (e2 gIx (eVarO 1) (e2 (gIC cMod (· % ·)) (e2 (gIC cDiv (· / ·)) (eVarO 4) (eC (.int 61))) (eA gLen (aCons (eVarO 1) aNil)))) (eC (.int 0))) (tgN 7))
    (sSeq (sAsg (e2 (gI (· - ·)) (e2 (gIC cMod (· % ·)) (e2 (gIC cDiv (· / ·)) (eVarO 0) (eC (.int 10))) (eC (.int 19))) (eC (.int 9))) (tgN 8))
    (sSeq (sIf (tE (e2 gEq (e2 (gIC cMod (· % ·)) (eVarO 4) (eC (.int 4))) (eC (.int 1)))) (sAsg (e2 (gI (· - ·)) (e2 (gIC cMod (· % ·)) (e2 (gIC cDiv (· / ·)) (eVarO 0) (eC (.int 10))) (eC (.int 2000000000000000001))) (eC (.int 1000000000000000000))) (tgN 8)) sNext)
    (sSeq (sAsg (e2 (gIC cMod (· % ·)) (e2 (gIC cDiv (· / ·)) (eVarO 4) (eC (.int 1013))) (e2 gAdd (eVarO 3) (eC (.int 1)))) (tgN 9))
    (sSeq (sAsg (e2 (gIC cMod (· % ·)) (eVarO 0) (eC (.int 10))) (tgN 10))
    (sSeq (sIf (tE (e2 (gB fun i j => decide (i < j)) (eVarO 10) (eC (.int 2)))) (sRet (e2 gIx (eL (nLst (aCons (eTup (aCons (eC (.str "open")) (aCons (eVar 7) aNil))) (aCons (eTup (aCons (eC (.str "lay")) (aCons (eVar 5) (aCons (eVar 7) (aCons (eVar 8) aNil))))) aNil)))) (eVarO 10))) sNext)
    (sSeq (sIf (tE (e2 (gB fun i j => decide (i < j)) (eVarO 10) (eC (.int 6)))) (sRet (e2 gIx (eL (nLst (aCons (eTup (aCons (eC (.str "copy")) (aCons (eVar 5) (aCons (eVar 6) (aCons (eVar 7) aNil))))) (aCons (eTup (aCons (eC (.str "same")) (aCons (eVar 5) (aCons (eVar 6) aNil)))) (aCons (eTup (aCons (eC (.str "add")) (aCons (eVar 5) (aCons (eVar 6) aNil)))) (aCons (eTup (aCons (eC (.str "tell")) (aCons (eVar 5) aNil))) aNil)))))) (e2 (gI (· - ·)) (eVarO 10) (eC (.int 2))))) sNext)
    (sRet (e2 gIx (eL (nLst (aCons (eTup (aCons (eC (.str "give")) (aCons (eVar 7) aNil))) (aCons (eTup (aCons (eC (.str "fork")) (aCons (eVar 9) aNil))) (aCons (eTup (aCons (eC (.str "go")) (aCons (eVar 9) aNil))) (aCons (eTup (aCons (eC (.str "end")) aNil)) aNil)))))) (e2 (gI (· - ·)) (eVarO 10) (eC (.int 6)))))))))))))))
def f__law_row : List PyData → Option PyData := fnD 11 F__law_row
theorem ok__law_row {f : Addr} {fd : FuncData} (F : Fun K "_law_row" "_law_row" s__law_row f fd) (T : Bt mg) : FnOk P w K mg base CX0 1 f fd ["_law_cell", "_law_plots_here", "_law_names_here", "_law_size"] (spD K 4 f__law_row) := by
  exact fn_den (N := N__law_row) F sc__law_row (by decide) fun cdv A outer s H E hr => by
    have hu : (A.deeper (envOfC "_law_row" (defScope s__law_row) s.heap.objs.size f cdv)).units + 65 < cLine := by have := hr.un; omega
    have hv : (A.deeper (envOfC "_law_row" (defScope s__law_row) s.heap.objs.size f cdv)).units + 1 < cLine := by omega
    exact ek_out (K := K) ((PL.bC (zAsg (bMod (EP.o (bAdd (EP.o (bMul (EP.o (bDiv (vO 0) (EP.o cI))) (EP.o cI))) (EP.o cI))) (EP.o cI)) (gN (S := [4]) 4 sc__law_row.nd))
    (PL.bC (zAsg (ixx (vO 2) (EP.o (bMod (vO 4) (EP.o (fLen T.len (ha := (xC (vO 2) xN))))))) (gN (S := [5]) 5 sc__law_row.nd))
    (PL.bC (zAsg (ixx (vO 2) (EP.o (bMod (EP.o (bDiv (vO 4) (EP.o cI))) (EP.o (fLen T.len (ha := (xC (vO 2) xN))))))) (gN (S := [6]) 6 sc__law_row.nd))
    (PL.bC (zAsg (ixx (EP.o (ixx (vO 1) (EP.o (bMod (EP.o (bDiv (vO 4) (EP.o cI))) (EP.o (fLen T.len (ha := (xC (vO 1) xN)))))))) (EP.o cI)) (gN (S := [7]) 7 sc__law_row.nd))
    (PL.bC (zAsg (bSub (EP.o (bMod (EP.o (bDiv (vO 0) (EP.o cI))) (EP.o cI))) (EP.o cI)) (gN (S := [8]) 8 sc__law_row.nd))
    (PL.bC (zIf (tcmp (kEq hu) (EP.o (bMod (vO 4) (EP.o cI))) (EP.o cI)) (PL.b1 (zAsg (bSub (EP.o (bMod (EP.o (bDiv (vO 0) (EP.o cI))) (EP.o cI))) (EP.o cI)) (gN (S := [8]) 8 sc__law_row.nd))) PL.b0)
    (PL.bC (zAsg (bMod (EP.o (bDiv (vO 4) (EP.o cI))) (EP.o (bAdd (vO 3) (EP.o cI)))) (gN (S := [9]) 9 sc__law_row.nd))
    (PL.bC (zAsg (bMod (vO 0) (EP.o cI)) (gN (S := [10]) 10 sc__law_row.nd))
    (PL.bC (zIf (tcmp kLt (vO 10) (EP.o cI)) (PL.b1 (zRet (ixx (EN.o (dLst (yC (dTup (yC cS (yC (vP 7) yN))) (yC (dTup (yC cS (yC (vP 5) (yC (vP 7) (yC (vP 8) yN))))) yN)))) (vO 10)))) PL.b0)
    (PL.bC (zIf (tcmp kLt (vO 10) (EP.o cI)) (PL.b1 (zRet (ixx (EN.o (dLst (yC (dTup (yC cS (yC (vP 5) (yC (vP 6) (yC (vP 7) yN))))) (yC (dTup (yC cS (yC (vP 5) (yC (vP 6) yN)))) (yC (dTup (yC cS (yC (vP 5) (yC (vP 6) yN)))) (yC (dTup (yC cS (yC (vP 5) yN))) yN)))))) (EP.o (bSub (vO 10) (EP.o cI)))))) PL.b0)
    (PL.b1 (zRet (ixx (EN.o (dLst (yC (dTup (yC cS (yC (vP 7) yN))) (yC (dTup (yC cS (yC (vP 9) yN))) (yC (dTup (yC cS (yC (vP 9) yN))) (yC (dTup (yC cS yN)) yN)))))) (EP.o (bSub (vO 10) (EP.o cI)))))))))))))))))

/-! _law_outward: _law_plots_here 0, _law_plot 1, _law_found 2, _law_name 3, _law_outer 4 -/
abbrev s__law_outward : Stmt := topS 19
abbrev N__law_outward : List Str := ["_law_plots_here", "_law_plot", "_law_found", "_law_name", "_law_outer"]
theorem sc__law_outward : FnScope N__law_outward ["_law_plots_here", "_law_plot"] (defScope s__law_outward) := ⟨rfl, rfl, rfl, by decide +kernel, rfl, by decide +kernel, by decide +kernel⟩
def F__law_outward : PL.Env → Option Out := (sSeq (sOwn (nLst aNil) 2)
    (sSeq (sFor (iLS (eL (nRev (eVarO 0)))) (tgT 2 (tgCons (tgN 3) (tgCons (tgN 4) tgNil))) (sIf (tE (e2 gEq (eVarO 3) (eVarO 1))) (sSeq (sApp 2 (eVar 3))
    (sAsg (eVar 4) (tgN 1))) sNext))
    (sRetO 2)))
def f__law_outward : List PyData → Option (List PyData) := fnN 5 F__law_outward
theorem ok__law_outward {f : Addr} {fd : FuncData} (F : Fun K "_law_outward" "_law_outward" s__law_outward f fd) (T : Bt mg) : FnOk P w K mg base CX0 1 f fd ["_law_plots_here", "_law_plot"] (spN K 2 f__law_outward) := by
  exact fn_denN (N := N__law_outward) F sc__law_outward (by decide) fun cdv A outer s H E hr => by
    have hu : (A.deeper (envOfC "_law_outward" (defScope s__law_outward) s.heap.objs.size f cdv)).units + 65 < cLine := by have := hr.un; omega
    have hv : (A.deeper (envOfC "_law_outward" (defScope s__law_outward) s.heap.objs.size f cdv)).units + 1 < cLine := by omega
    exact ek_out (K := K) ((PL.bC (zOwn 2 sc__law_outward.nd (dLst yN))
    (PL.bC (zFor (S := [3, 4]) PassesOwn.never (iL (EN.p (slR (vO 0)))) (gT (gsC (gN 3 sc__law_outward.nd) (gsC (gN 4 sc__law_outward.nd) gs0))) (PL.b1 (zIf (tcmp (kEq hu) (vO 3) (vO 1)) (PL.bC (zApp 2 (vO 2) (vP 3))
    (PL.b1 (zAsg (vP 4) (gN (S := [1]) 1 sc__law_outward.nd)))) PL.b0)))
    (PL.b1 (zRetO 2 (vO 2))))))

abbrev s__law_fresh : Stmt := topS 20
theorem ok__law_fresh {f : Addr} {fd : FuncData} (F : Fun K "_law_fresh" "_law_fresh" s__law_fresh f fd) : FnOk P w K mg base CX0 1 f fd [] (spF K) := ok_fresh F ⟨rfl, rfl, rfl, by decide +kernel, rfl, by decide +kernel, by decide +kernel⟩ rfl

/-! _law_lack: _law_state 0, _law_name 1, _law_home 2, _law_plot 3, _law_number 4 -/
abbrev s__law_lack : Stmt := topS 21
abbrev N__law_lack : List Str := ["_law_state", "_law_name", "_law_home", "_law_plot", "_law_number"]
theorem sc__law_lack : FnScope N__law_lack ["_law_state", "_law_name"] (defScope s__law_lack) := ⟨rfl, rfl, rfl, by decide +kernel, rfl, by decide +kernel, by decide +kernel⟩
def F__law_lack : PL.Env → Option Out := (sSeq (sIf (tE (e2 (gDin true) (eVarO 1) (e2 gDg (eVar 0) (eC (.str "held"))))) (sRet (eC (.str "nothing"))) sNext)
    (sSeq (sAsg (e2 gIx (e2 gIx (e2 gDg (eVar 0) (eC (.str "worth"))) (e2 gDg (e2 gDg (eVar 0) (eC (.str "held"))) (eVarO 1))) (eC (.int 1))) (tgN 2))
    (sSeq (sIf (tE (e2 (gInL false) (eVarO 2) (eL (nLc (iLS (e2 gDg (eVar 0) (eC (.str "open")))) (tgT 2 (tgCons (tgN 3) (tgCons (tgN 4) tgNil))) (fun _ => some true) (eVar 4) [3, 4])))) (sRet (eC (.str ""))) sNext)
    (sRet (eC (.str "gone"))))))
def f__law_lack : List PyData → Option PyData := fnD 5 F__law_lack
theorem ok__law_lack {f : Addr} {fd : FuncData} (F : Fun K "_law_lack" "_law_lack" s__law_lack f fd) (T : Bt mg) : FnOk P w K mg base CX0 1 f fd ["_law_state", "_law_name"] (spD K 2 f__law_lack) := by
  exact fn_den (N := N__law_lack) F sc__law_lack (by decide) fun cdv A outer s H E hr => by
    have hu : (A.deeper (envOfC "_law_lack" (defScope s__law_lack) s.heap.objs.size f cdv)).units + 65 < cLine := by have := hr.un; omega
    have hv : (A.deeper (envOfC "_law_lack" (defScope s__law_lack) s.heap.objs.size f cdv)).units + 1 < cLine := by omega
    exact ek_out (K := K) ((PL.bC (zIf (tDnin_ hv (vO 1) (dgx hv (vP 0) (EP.o cS))) (PL.b1 (zRet cS)) PL.b0)
    (PL.bC (zAsg (ixx (EP.o (ixx (EP.o (dgx hv (vP 0) (EP.o cS))) (EP.o (dgx hv (dgx hv (vP 0) (EP.o cS)) (vO 1))))) (EP.o cI)) (gN (S := [2]) 2 sc__law_lack.nd))
    (PL.bC (zIf (tcmp (kInL hu) (vO 2) (EN.o (lcp [("_law_plot", 3), ("_law_number", 4)] s sc__law_lack.nd (jL (EP.o (dgx hv (vP 0) (EP.o cS)))) (blkOk_by (own := [("_law_plot", 3), ("_law_number", 4)]) (N := N__law_lack) (sc := defScope s__law_lack) (by decide +kernel)) (fun _ _ _ _ _ => (gT (gsC (gN 3 sc__law_lack.nd) (gsC (gN 4 sc__law_lack.nd) gs0)))) (fun _ _ _ _ _ => ts0) (fun _ _ _ _ _ => (vP 4))))) (PL.b1 (zRet cS)) PL.b0)
    (PL.b1 (zRet cS))))))

/-! _law_wrong: _law_plots_here 0, _law_state 1, _law_row_here 2, _law_word 3, _law_up 4, _law_asked 5, _law_home 6, _law_around 7, _law_at_here 8, _law_plot 9, _law_number 10 -/
abbrev s__law_wrong : Stmt := topS 22
abbrev N__law_wrong : List Str := ["_law_plots_here", "_law_state", "_law_row_here", "_law_word", "_law_up", "_law_asked", "_law_home", "_law_around", "_law_at_here", "_law_plot", "_law_number"]
theorem sc__law_wrong : FnScope N__law_wrong ["_law_plots_here", "_law_state", "_law_row_here"] (defScope s__law_wrong) := ⟨rfl, rfl, rfl, by decide +kernel, rfl, by decide +kernel, by decide +kernel⟩
def F__law_wrong : PL.Env → Option Out := (sSeq (sAsg (e2 gIx (eVarO 2) (eC (.int 0))) (tgN 3))
    (sSeq (sOwn (nLc (iLS (e2 gDg (eVar 1) (eC (.str "open")))) (tgT 2 (tgCons (tgN 9) (tgCons (tgN 10) tgNil))) (fun _ => some true) (eVar 9) [9, 10]) 4)
    (sFree 4 (sSeq (sIf (tE (e2 gEq (eVarO 3) (eC (.str "open")))) (sSeq (sIf (tE (e2 (gInL false) (e2 gIx (eVarO 2) (eC (.int 1))) (eVarO 4))) (sRet (eC (.str "open already"))) sNext)
    (sSeq (sAsg (eL (fun env => ((aCons (eVar 0) (aCons (e2 gIx (eVarO 2) (eC (.int 1))) aNil)) env).bind fun ds => if ds.length = 2 then f__law_outward ds else none)) (tgN 7))
    (sSeq (sIf (tA (tE (e2 (gB fun i j => decide (j < i)) (eA gLen (aCons (eVarO 7) aNil)) (eC (.int 1)))) (tE (e2 (gInL true) (e2 gIx (eVarO 7) (eC (.int 1))) (eVarO 4)))) (sRet (eC (.str "not open"))) sNext)
    (sRet (eC (.str "")))))) sNext)
    (sSeq (sIf (tA (tE (e2 gEq (eVarO 3) (eC (.str "same")))) (tE (e2 (gDin true) (e2 gIx (eVarO 2) (eC (.int 2))) (e2 gDg (eVar 1) (eC (.str "held")))))) (sRet (eC (.str "nothing"))) sNext)
    (sSeq (sAsg (eDict ["copy", "add", "tell"] (aCons (eTup (aCons (eC (.int 2)) aNil)) (aCons (eTup (aCons (eC (.int 1)) (aCons (eC (.int 2)) aNil))) (aCons (eTup (aCons (eC (.int 1)) aNil)) aNil)))) (tgN 5))
    (sSeq (sIf (tE (e2 (gDin false) (eVarO 3) (eVar 5))) (sFor (iT (e2 gDg (eVar 5) (eVarO 3))) (tgN 8) (sIf (tE (e2 gNe (eA (fun ds => if ds.length = 2 then f__law_lack ds else none) (aCons (eVar 1) (aCons (e2 gIx (eVarO 2) (eVarO 8)) aNil))) (eC (.str "")))) (sRet (eA (fun ds => if ds.length = 2 then f__law_lack ds else none) (aCons (eVar 1) (aCons (e2 gIx (eVarO 2) (eVarO 8)) aNil)))) sNext)) sNext)
    (sSeq (sAsg (eDict ["lay", "copy", "give"] (aCons (eC (.int 2)) (aCons (eC (.int 3)) (aCons (eC (.int 1)) aNil)))) (tgN 6))
    (sSeq (sIf (tA (tE (e2 (gDin false) (eVarO 3) (eVar 6))) (tE (e2 (gInL true) (e2 gIx (eVarO 2) (e2 gDg (eVar 6) (eVarO 3))) (eVarO 4)))) (sRet (eC (.str "not open"))) sNext)
    (sSeq (sIf (tA (tE (e2 gEq (eVarO 3) (eC (.str "end")))) (tE (e2 gNe (eVarO 4) (eL (nLst aNil))))) (sRet (eC (.str "left"))) sNext)
    (sRet (eC (.str "")))))))))))))
def f__law_wrong : List PyData → Option PyData := fnD 11 F__law_wrong
theorem ok__law_wrong {f : Addr} {fd : FuncData} (F : Fun K "_law_wrong" "_law_wrong" s__law_wrong f fd) (T : Bt mg) (C_law_outward : CalN P w K mg base 1 "_law_outward" 2 ["_law_plots_here", "_law_plot"] f__law_outward) (C_law_lack : Cal P w K mg base 1 "_law_lack" 2 ["_law_state", "_law_name"] f__law_lack) : FnOk P w K mg base CX0 2 f fd ["_law_plots_here", "_law_state", "_law_row_here"] (spD K 3 f__law_wrong) := by
  exact fn_den (N := N__law_wrong) F sc__law_wrong (by decide) fun cdv A outer s H E hr => by
    have hu : (A.deeper (envOfC "_law_wrong" (defScope s__law_wrong) s.heap.objs.size f cdv)).units + 65 < cLine := by have := hr.un; omega
    have hv : (A.deeper (envOfC "_law_wrong" (defScope s__law_wrong) s.heap.objs.size f cdv)).units + 1 < cLine := by omega
    exact ek_out (K := K) ((PL.bC (zAsg (ixx (vO 2) (EP.o cI)) (gN (S := [3]) 3 sc__law_wrong.nd))
    (PL.bC (zLc 4 [("_law_plot", 9), ("_law_number", 10)] s sc__law_wrong.nd (jL (EP.o (dgx hv (vP 1) (EP.o cS)))) (blkOk_by (own := [("_law_plot", 9), ("_law_number", 10)]) (N := N__law_wrong) (sc := defScope s__law_wrong) (by decide +kernel)) (fun _ _ _ _ _ => (gT (gsC (gN 9 sc__law_wrong.nd) (gsC (gN 10 sc__law_wrong.nd) gs0)))) (fun _ _ _ _ _ => ts0) (fun _ _ _ _ _ => (vP 9)) (sw_true rfl rfl rfl (by decide +kernel)))
    (EK.free 4 (PL.bC (zIf (tcmp (kEq hu) (vO 3) (EP.o cS)) (PL.bC (zIf (tcmp (kInL hu) (EP.o (ixx (vO 2) (EP.o cI))) (vO 4)) (PL.b1 (zRet cS)) PL.b0)
    (PL.bC (zAsg (EN.p (cal1N C_law_outward hr (by decide) (yC (vP 0) (yC (ixx (vO 2) (EP.o cI)) yN)))) (gN (S := [7]) 7 sc__law_wrong.nd))
    (PL.bC (zIf (EW.tt (wA (tcmp kGt (EP.o (fLen T.len (ha := (xC (vO 7) xN)))) (EP.o cI)) (wA1 (tcmp (kNiL hu) (EP.o (ixx (vO 7) (EP.o cI))) (vO 4))))) (PL.b1 (zRet cS)) PL.b0)
    (PL.b1 (zRet cS))))) PL.b0)
    (PL.bC (zIf (EW.tt (wA (tcmp (kEq hu) (vO 3) (EP.o cS)) (wA1 (tDnin_ hv (EP.o (ixx (vO 2) (EP.o cI))) (dgx hv (vP 1) (EP.o cS)))))) (PL.b1 (zRet cS)) PL.b0)
    (PL.bC (zAsg (dDict (kC (dTup (yC cI yN)) (kC (dTup (yC cI (yC cI yN))) (kC (dTup (yC cI yN)) kN)))) (gN (S := [5]) 5 sc__law_wrong.nd))
    (PL.bC (zIf (tDin_ hv (vO 3) (vP 5)) (PL.b1 (zFor (S := [8]) PassesOwn.never (iTu (EP.o (dgx hv (vP 5) (vO 3)))) (gN 8 sc__law_wrong.nd) (PL.b1 (zIf (tcmp (kNe hu) (EP.o (cal1 C_law_lack hr (by decide) (yC (vP 1) (yC (ixx (vO 2) (vO 8)) yN)))) (EP.o cS)) (PL.b1 (zRet (cal1 C_law_lack hr (by decide) (yC (vP 1) (yC (ixx (vO 2) (vO 8)) yN))))) PL.b0)))) PL.b0)
    (PL.bC (zAsg (dDict (kC cI (kC cI (kC cI kN)))) (gN (S := [6]) 6 sc__law_wrong.nd))
    (PL.bC (zIf (EW.tt (wA (tDin_ hv (vO 3) (vP 6)) (wA1 (tcmp (kNiL hu) (EP.o (ixx (vO 2) (EP.o (dgx hv (vP 6) (vO 3))))) (vO 4))))) (PL.b1 (zRet cS)) PL.b0)
    (PL.bC (zIf (EW.tt (wA (tcmp (kEq hu) (vO 3) (EP.o cS)) (wA1 (tcmp (kNe hu) (vO 4) (EN.o (dLst yN)))))) (PL.b1 (zRet cS)) PL.b0)
    (PL.b1 (zRet cS)))))))))))))

/-! _law_deed: _law_plots_here 0, _law_state 1, _law_row_here 2, _law_word 3, _law_plot 4, _law_worth 5, _law_home 6, _law_more 7, _law_name 8, _law_number 9, _law_gone 10, _law_pair 11 -/
abbrev s__law_deed : Stmt := topS 23
abbrev N__law_deed : List Str := ["_law_plots_here", "_law_state", "_law_row_here", "_law_word", "_law_plot", "_law_worth", "_law_home", "_law_more", "_law_name", "_law_number", "_law_gone", "_law_pair"]
theorem sc__law_deed : FnScope N__law_deed ["_law_plots_here", "_law_state", "_law_row_here"] (defScope s__law_deed) := ⟨rfl, rfl, rfl, by decide +kernel, rfl, by decide +kernel, by decide +kernel⟩
def F__law_deed : PL.Env → Option Out := (sSeq (sAsg (e2 gIx (eVarO 2) (eC (.int 0))) (tgN 3))
    (sIf (tE (e2 gEq (eVarO 3) (eC (.str "open")))) (sSeq (sOpnApp 1 (eTup (aCons (e2 gIx (eVarO 2) (eC (.int 1))) (aCons (eMany 1) aNil))))
    (sMany 1 (e2 gAdd (eMany 1) (eC (.int 1))))) (sIf (tO (tE (e2 gEq (eVarO 3) (eC (.str "lay")))) (tE (e2 gEq (eVarO 3) (eC (.str "copy"))))) (sSeq (sAsg (eIf (tE (e2 gEq (eVarO 3) (eC (.str "lay")))) (e2 gIx (eVarO 2) (eC (.int 2))) (e2 gIx (eVarO 2) (eC (.int 3)))) (tgN 4))
    (sSeq (sAsg (eIf (tE (e2 gEq (eVarO 3) (eC (.str "lay")))) (e2 gIx (eVarO 2) (eC (.int 3))) (eWorthAt 1 (eHeldAt 1 (e2 gIx (eVarO 2) (eC (.int 2)))) 0)) (tgN 5))
    (sSeq (sAsg (e2 gIx (eL (nLc (iLS (eOpn 1)) (tgT 2 (tgCons (tgN 8) (tgCons (tgN 9) tgNil))) (tE (e2 gEq (eVarO 8) (eVarO 4))) (eVar 9) [8, 9])) (eC (.int 0))) (tgN 6))
    (sSeq (sHold 1 (e2 gIx (eVarO 2) (eC (.int 1))) (eLenWorth 1))
    (sWorth 1 (nLst (aCons (eVar 5) (aCons (eVar 6) aNil)))))))) (sIf (tE (e2 gEq (eVarO 3) (eC (.str "same")))) (sHold 1 (e2 gIx (eVarO 2) (eC (.int 1))) (eHeldAt 1 (e2 gIx (eVarO 2) (eC (.int 2))))) (sIf (tE (e2 gEq (eVarO 3) (eC (.str "add")))) (sSeq (sAsg (eWorthAt 1 (eHeldAt 1 (e2 gIx (eVarO 2) (eC (.int 2)))) 0) (tgN 7))
    (sWAug 1 (eHeldAt 1 (e2 gIx (eVarO 2) (eC (.int 1)))) (eVar 7))) (sIf (tE (e2 gEq (eVarO 3) (eC (.str "tell")))) (sTold 1 (eWorthAt 1 (eHeldAt 1 (e2 gIx (eVarO 2) (eC (.int 1)))) 0)) (sIf (tE (e2 gEq (eVarO 3) (eC (.str "give")))) (sSeq (sAsg (eL (nLc (iLS (eOpn 1)) (tgN 11) (tE (e2 (gInL false) (e2 gIx (eVarO 2) (eC (.int 1))) (eL (fun env => ((aCons (eVar 0) (aCons (e2 gIx (eVarO 11) (eC (.int 0))) aNil)) env).bind fun ds => if ds.length = 2 then f__law_outward ds else none)))) (eVar 11) [11])) (tgN 10))
    (sSeq (sGivn 1 (nRev (eL (nLc (iLS (eVarO 10)) (tgT 2 (tgCons (tgN 4) (tgCons (tgN 9) tgNil))) (fun _ => some true) (eVar 9) [4, 9]))))
    (sOpnSet 1 (nLc (iLS (eOpn 1)) (tgN 11) (tE (e2 (gInL true) (eVarO 11) (eVarO 10))) (eVar 11) [11])))) sNext)))))))
def f__law_deed : LS → List PyData → Option LS := fnM 12 1 F__law_deed
theorem ok__law_deed {f : Addr} {fd : FuncData} (F : Fun K "_law_deed" "_law_deed" s__law_deed f fd) (T : Bt mg) (C_law_outward : CalN P w K mg base 1 "_law_outward" 2 ["_law_plots_here", "_law_plot"] f__law_outward) : FnOk P w K mg base CX0 2 f fd ["_law_plots_here", "_law_state", "_law_row_here"] (spM K 3 1 f__law_deed) := by
  exact fn_denM (i := 1) (N := N__law_deed) F sc__law_deed (by decide) fun cdv A outer s H E hr => by
    have hu : (A.deeper (envOfC "_law_deed" (defScope s__law_deed) s.heap.objs.size f cdv)).units + 65 < cLine := by have := hr.un; omega
    have hv : (A.deeper (envOfC "_law_deed" (defScope s__law_deed) s.heap.objs.size f cdv)).units + 1 < cLine := by omega
    exact ek_out (K := K) ((PL.bC (zAsg (ixx (vO 2) (EP.o cI)) (gN (S := [3]) 3 sc__law_deed.nd))
    (PL.b1 (zIf (tcmp (kEq hu) (vO 3) (EP.o cS)) (PL.bC (zOpnApp hv 1 (pv 1) (dTup (yC (ixx (vO 2) (EP.o cI)) (yC (pMany hv 1 (pv 1)) yN))))
    (PL.b1 (zMany hv 1 (pv 1) (bAdd (EP.o (pMany hv 1 (pv 1))) (EP.o cI))))) (PL.b1 (zIf (EW.tt (wO (tcmp (kEq hu) (vO 3) (EP.o cS)) (wO1 (tcmp (kEq hu) (vO 3) (EP.o cS))))) (PL.bC (zAsg (vIf (tcmp (kEq hu) (vO 3) (EP.o cS)) (ixx (vO 2) (EP.o cI)) (ixx (vO 2) (EP.o cI))) (gN (S := [4]) 4 sc__law_deed.nd))
    (PL.bC (zAsg (vIf (tcmp (kEq hu) (vO 3) (EP.o cS)) (ixx (vO 2) (EP.o cI)) (pWorth hv 1 0 (pv 1) (pHeld hv 1 (pv 1) (ixx (vO 2) (EP.o cI))))) (gN (S := [5]) 5 sc__law_deed.nd))
    (PL.bC (zAsg (ixx (EN.o (lcp [("_law_name", 8), ("_law_number", 9)] s sc__law_deed.nd (jL (oOpn hv 1 (pv 1))) (blkOk_by (own := [("_law_name", 8), ("_law_number", 9)]) (N := N__law_deed) (sc := defScope s__law_deed) (by decide +kernel)) (fun _ _ _ _ _ => (gT (gsC (gN 8 sc__law_deed.nd) (gsC (gN 9 sc__law_deed.nd) gs0)))) (fun _ _ _ _ _ => (ts1 (tcmp (kEq hu) (vO 8) (vO 4)))) (fun _ _ _ _ _ => (vP 9)))) (EP.o cI)) (gN (S := [6]) 6 sc__law_deed.nd))
    (PL.bC (zHold hv 1 (pv 1) (ixx (vO 2) (EP.o cI)) (pLenW hv T.len 1 (pv 1)))
    (PL.b1 (zWorth hv 1 (pv 1) (dLst (yC (vP 5) (yC (vP 6) yN))))))))) (PL.b1 (zIf (tcmp (kEq hu) (vO 3) (EP.o cS)) (PL.b1 (zHold hv 1 (pv 1) (ixx (vO 2) (EP.o cI)) (pHeld hv 1 (pv 1) (ixx (vO 2) (EP.o cI))))) (PL.b1 (zIf (tcmp (kEq hu) (vO 3) (EP.o cS)) (PL.bC (zAsg (pWorth hv 1 0 (pv 1) (pHeld hv 1 (pv 1) (ixx (vO 2) (EP.o cI)))) (gN (S := [7]) 7 sc__law_deed.nd))
    (PL.b1 (zWAug hv 1 (pv 1) (pHeld hv 1 (pv 1) (ixx (vO 2) (EP.o cI))) (vP 7)))) (PL.b1 (zIf (tcmp (kEq hu) (vO 3) (EP.o cS)) (PL.b1 (zTold hv 1 (pv 1) (pWorth hv 1 0 (pv 1) (pHeld hv 1 (pv 1) (ixx (vO 2) (EP.o cI)))))) (PL.b1 (zIf (tcmp (kEq hu) (vO 3) (EP.o cS)) (PL.bC (zAsg (EN.p (lcp [("_law_pair", 11)] s sc__law_deed.nd (jL (oOpn hv 1 (pv 1))) (blkOk_by (own := [("_law_pair", 11)]) (N := N__law_deed) (sc := defScope s__law_deed) (by decide +kernel)) (fun _ _ _ _ _ => (gN 11 sc__law_deed.nd)) (fun _ _ _ _ _ => (ts1 (tcmp (kInL hu) (EP.o (ixx (vO 2) (EP.o cI))) (EN.o (cal1N C_law_outward hr (by decide) (yC (vP 0) (yC (ixx (vO 11) (EP.o cI)) yN))))))) (fun _ _ _ _ _ => (vP 11)))) (gN (S := [10]) 10 sc__law_deed.nd))
    (PL.bC (zGivn hv 1 (pv 1) (slR (EN.o (lcp [("_law_plot", 4), ("_law_number", 9)] s sc__law_deed.nd (jL (vO 10)) (blkOk_by (own := [("_law_plot", 4), ("_law_number", 9)]) (N := N__law_deed) (sc := defScope s__law_deed) (by decide +kernel)) (fun _ _ _ _ _ => (gT (gsC (gN 4 sc__law_deed.nd) (gsC (gN 9 sc__law_deed.nd) gs0)))) (fun _ _ _ _ _ => ts0) (fun _ _ _ _ _ => (vP 9))))))
    (PL.b1 (zOpnSet hv 1 (pv 1) (lcp [("_law_pair", 11)] s sc__law_deed.nd (jL (oOpn hv 1 (pv 1))) (blkOk_by (own := [("_law_pair", 11)]) (N := N__law_deed) (sc := defScope s__law_deed) (by decide +kernel)) (fun _ _ _ _ _ => (gN 11 sc__law_deed.nd)) (fun _ _ _ _ _ => (ts1 (tcmp (kNiL hu) (vO 11) (vO 10)))) (fun _ _ _ _ _ => (vP 11))))))) PL.b0))))))))))))))

/-! _law_next: _law_cell 0, _law_plots_here 1, _law_names_here 2, _law_state 3, _law_row_here 4, _law_plot 5, _law_outer 6 -/
abbrev s__law_next : Stmt := topS 24
abbrev N__law_next : List Str := ["_law_cell", "_law_plots_here", "_law_names_here", "_law_state", "_law_row_here", "_law_plot", "_law_outer"]
theorem sc__law_next : FnScope N__law_next ["_law_cell", "_law_plots_here", "_law_names_here", "_law_state"] (defScope s__law_next) := ⟨rfl, rfl, rfl, by decide +kernel, rfl, by decide +kernel, by decide +kernel⟩
def F__law_next : PL.Env → Option Out := (sSeq (sAsg (eA (fun ds => if ds.length = 4 then f__law_row ds else none) (aCons (eVar 0) (aCons (eVar 1) (aCons (eVar 2) (aCons (eC (.int 0)) aNil))))) (tgN 4))
    (sSeq (sIf (tA (tE (e2 (gInT true) (e2 gIx (eVarO 4) (eC (.int 0))) (eTup (aCons (eC (.str "fork")) (aCons (eC (.str "go")) (aCons (eC (.str "end")) aNil)))))) (tE (e2 gEq (eA (fun ds => if ds.length = 3 then f__law_wrong ds else none) (aCons (eVar 1) (aCons (eVar 3) (aCons (eVar 4) aNil)))) (eC (.str ""))))) (sRet (eVar 4)) sNext)
    (sSeq (sIf (tE (e2 (gB fun i j => decide (i < j)) (e2 (gIC cMul (· * ·)) (eA gLen (aCons (e2 gDg (eVar 3) (eC (.str "open"))) aNil)) (eC (.int 2))) (e2 gAdd (eA gLen (aCons (eVarO 1) aNil)) (e2 (gIC cMod (· % ·)) (e2 (gIC cDiv (· / ·)) (eVarO 0) (eC (.int 10))) (eC (.int 2)))))) (sFor (iLS (eL (nCat (eL (nSl (eVarO 1) (oSome (e2 (gIC cMod (· % ·)) (eVarO 0) (eA gLen (aCons (eVarO 1) aNil)))) oNone)) (eVarO 1)))) (tgT 2 (tgCons (tgN 5) (tgCons (tgN 6) tgNil))) (sIf (tE (e2 gEq (eA (fun ds => if ds.length = 3 then f__law_wrong ds else none) (aCons (eVar 1) (aCons (eVar 3) (aCons (eTup (aCons (eC (.str "open")) (aCons (eVar 5) aNil))) aNil)))) (eC (.str "")))) (sRet (eTup (aCons (eC (.str "open")) (aCons (eVar 5) aNil)))) sNext)) sNext)
    (sSeq (sAsg (e2 gIx (e2 gIx (e2 gDg (eVar 3) (eC (.str "open"))) (e2 (gIC cMod (· % ·)) (e2 (gIC cDiv (· / ·)) (eVarO 0) (eC (.int 10))) (eA gLen (aCons (e2 gDg (eVar 3) (eC (.str "open"))) aNil)))) (eC (.int 0))) (tgN 5))
    (sRet (eTup (aCons (eC (.str "lay")) (aCons (e2 gIx (eVarO 2) (e2 (gIC cMod (· % ·)) (e2 (gIC cDiv (· / ·)) (eVarO 0) (eC (.int 70))) (eA gLen (aCons (eVarO 2) aNil)))) (aCons (eVar 5) (aCons (e2 (gI (· - ·)) (e2 (gIC cMod (· % ·)) (e2 (gIC cDiv (· / ·)) (eVarO 0) (eC (.int 10))) (eC (.int 19))) (eC (.int 9))) aNil))))))))))
def f__law_next : List PyData → Option PyData := fnD 7 F__law_next
theorem ok__law_next {f : Addr} {fd : FuncData} (F : Fun K "_law_next" "_law_next" s__law_next f fd) (T : Bt mg) (C_law_row : Cal P w K mg base 1 "_law_row" 4 ["_law_cell", "_law_plots_here", "_law_names_here", "_law_size"] f__law_row) (C_law_wrong : Cal P w K mg base 2 "_law_wrong" 3 ["_law_plots_here", "_law_state", "_law_row_here"] f__law_wrong) : FnOk P w K mg base CX0 3 f fd ["_law_cell", "_law_plots_here", "_law_names_here", "_law_state"] (spD K 4 f__law_next) := by
  exact fn_den (N := N__law_next) F sc__law_next (by decide) fun cdv A outer s H E hr => by
    have hu : (A.deeper (envOfC "_law_next" (defScope s__law_next) s.heap.objs.size f cdv)).units + 65 < cLine := by have := hr.un; omega
    have hv : (A.deeper (envOfC "_law_next" (defScope s__law_next) s.heap.objs.size f cdv)).units + 1 < cLine := by omega
    exact ek_out (K := K) ((PL.bC (zAsg (cal1 C_law_row hr (by decide) (yC (vP 0) (yC (vP 1) (yC (vP 2) (yC cI yN))))) (gN (S := [4]) 4 sc__law_next.nd))
    (PL.bC (zIf (EW.tt (wA (tcmp kNiT (EP.o (ixx (vO 4) (EP.o cI))) (EP.o (dTup (yC cS (yC cS (yC cS yN)))))) (wA1 (tcmp (kEq hu) (EP.o (cal1 C_law_wrong hr (by decide) (yC (vP 1) (yC (vP 3) (yC (vP 4) yN))))) (EP.o cS))))) (PL.b1 (zRet (vP 4))) PL.b0)
    (PL.bC (zIf (tcmp kLt (EP.o (bMul (EP.o (fLen T.len (ha := (xC (EP.o (dgx hv (vP 3) (EP.o cS))) xN)))) (EP.o cI))) (EP.o (bAdd (EP.o (fLen T.len (ha := (xC (vO 1) xN)))) (EP.o (bMod (EP.o (bDiv (vO 0) (EP.o cI))) (EP.o cI)))))) (PL.b1 (zFor (S := [5, 6]) PassesOwn.never (iL (EN.p (bCat (EN.o (slL (vO 1) (qS (EP.o (bMod (vO 0) (EP.o (fLen T.len (ha := (xC (vO 1) xN))))))) qN)) (vO 1)))) (gT (gsC (gN 5 sc__law_next.nd) (gsC (gN 6 sc__law_next.nd) gs0))) (PL.b1 (zIf (tcmp (kEq hu) (EP.o (cal1 C_law_wrong hr (by decide) (yC (vP 1) (yC (vP 3) (yC (dTup (yC cS (yC (vP 5) yN))) yN))))) (EP.o cS)) (PL.b1 (zRet (dTup (yC cS (yC (vP 5) yN))))) PL.b0)))) PL.b0)
    (PL.bC (zAsg (ixx (EP.o (ixx (EP.o (dgx hv (vP 3) (EP.o cS))) (EP.o (bMod (EP.o (bDiv (vO 0) (EP.o cI))) (EP.o (fLen T.len (ha := (xC (EP.o (dgx hv (vP 3) (EP.o cS))) xN)))))))) (EP.o cI)) (gN (S := [5]) 5 sc__law_next.nd))
    (PL.b1 (zRet (dTup (yC cS (yC (ixx (vO 2) (EP.o (bMod (EP.o (bDiv (vO 0) (EP.o cI))) (EP.o (fLen T.len (ha := (xC (vO 2) xN))))))) (yC (vP 5) (yC (bSub (EP.o (bMod (EP.o (bDiv (vO 0) (EP.o cI))) (EP.o cI))) (EP.o cI)) yN))))))))))))

/-! _law_facts: _law_plots_here 0, _law_names_here 1, _law_state 2, _law_up 3, _law_found 4, _law_name 5, _law_where 6, _law_home 7, _law_plot 8, _law_number 9, _law_outer 10 -/
abbrev s__law_facts : Stmt := topS 25
abbrev N__law_facts : List Str := ["_law_plots_here", "_law_names_here", "_law_state", "_law_up", "_law_found", "_law_name", "_law_where", "_law_home", "_law_plot", "_law_number", "_law_outer"]
theorem sc__law_facts : FnScope N__law_facts ["_law_plots_here", "_law_names_here", "_law_state"] (defScope s__law_facts) := ⟨rfl, rfl, rfl, by decide +kernel, rfl, by decide +kernel, by decide +kernel⟩
def F__law_facts : PL.Env → Option Out := (sSeq (sAsg (eL (nLc (iLS (e2 gDg (eVar 2) (eC (.str "open")))) (tgT 2 (tgCons (tgN 8) (tgCons (tgN 9) tgNil))) (fun _ => some true) (eVar 8) [8, 9])) (tgN 3))
    (sSeq (sOwn (nLc (iLS (eVarO 0)) (tgT 2 (tgCons (tgN 8) (tgCons (tgN 10) tgNil))) (fun _ => some true) (eTup (aCons (eC (.str "plot")) (aCons (eVar 8) (aCons (e2 (gInL false) (eVarO 8) (eVarO 3)) aNil)))) [8, 10]) 4)
    (sSeq (sFor (iLS (eVar 1)) (tgN 5) (sSeq (sAsg (eC .none) (tgN 6))
    (sSeq (sIf (tE (e2 (gDin false) (eVarO 5) (e2 gDg (eVar 2) (eC (.str "held"))))) (sSeq (sAsg (e2 gIx (e2 gIx (e2 gDg (eVar 2) (eC (.str "worth"))) (e2 gDg (e2 gDg (eVar 2) (eC (.str "held"))) (eVarO 5))) (eC (.int 1))) (tgN 7))
    (sAsg (e2 gIx (eL (nCat (eL (nLc (iLS (e2 gDg (eVar 2) (eC (.str "open")))) (tgT 2 (tgCons (tgN 8) (tgCons (tgN 9) tgNil))) (tE (e2 gEq (eVarO 9) (eVarO 7))) (eVar 8) [8, 9])) (eL (nLst (aCons (eC (.str "")) aNil))))) (eC (.int 0))) (tgN 6))) sNext)
    (sApp 4 (eTup (aCons (eC (.str "name")) (aCons (eVar 5) (aCons (eVar 6) aNil))))))))
    (sRetO 4))))
def f__law_facts : List PyData → Option (List PyData) := fnN 11 F__law_facts
theorem ok__law_facts {f : Addr} {fd : FuncData} (F : Fun K "_law_facts" "_law_facts" s__law_facts f fd) (T : Bt mg) : FnOk P w K mg base CX0 1 f fd ["_law_plots_here", "_law_names_here", "_law_state"] (spN K 3 f__law_facts) := by
  exact fn_denN (N := N__law_facts) F sc__law_facts (by decide) fun cdv A outer s H E hr => by
    have hu : (A.deeper (envOfC "_law_facts" (defScope s__law_facts) s.heap.objs.size f cdv)).units + 65 < cLine := by have := hr.un; omega
    have hv : (A.deeper (envOfC "_law_facts" (defScope s__law_facts) s.heap.objs.size f cdv)).units + 1 < cLine := by omega
    exact ek_out (K := K) ((PL.bC (zAsg (EN.p (lcp [("_law_plot", 8), ("_law_number", 9)] s sc__law_facts.nd (jL (EP.o (dgx hv (vP 2) (EP.o cS)))) (blkOk_by (own := [("_law_plot", 8), ("_law_number", 9)]) (N := N__law_facts) (sc := defScope s__law_facts) (by decide +kernel)) (fun _ _ _ _ _ => (gT (gsC (gN 8 sc__law_facts.nd) (gsC (gN 9 sc__law_facts.nd) gs0)))) (fun _ _ _ _ _ => ts0) (fun _ _ _ _ _ => (vP 8)))) (gN (S := [3]) 3 sc__law_facts.nd))
    (PL.bC (zLc 4 [("_law_plot", 8), ("_law_outer", 10)] s sc__law_facts.nd (jL (vO 0)) (blkOk_by (own := [("_law_plot", 8), ("_law_outer", 10)]) (N := N__law_facts) (sc := defScope s__law_facts) (by decide +kernel)) (fun _ _ _ _ _ => (gT (gsC (gN 8 sc__law_facts.nd) (gsC (gN 10 sc__law_facts.nd) gs0)))) (fun _ _ _ _ _ => ts0) (fun _ _ _ _ _ => (dTup (yC cS (yC (vP 8) (yC (cmp (kInL hu) (vO 8) (vO 3)) yN))))) (sw_true rfl rfl rfl (by decide +kernel)))
    (PL.bC (zFor (S := [5]) PassesOwn.never (iL (vP 1)) (gN 5 sc__law_facts.nd) (PL.bC (zAsg cN (gN (S := [6]) 6 sc__law_facts.nd))
    (PL.bC (zIf (tDin_ hv (vO 5) (dgx hv (vP 2) (EP.o cS))) (PL.bC (zAsg (ixx (EP.o (ixx (EP.o (dgx hv (vP 2) (EP.o cS))) (EP.o (dgx hv (dgx hv (vP 2) (EP.o cS)) (vO 5))))) (EP.o cI)) (gN (S := [7]) 7 sc__law_facts.nd))
    (PL.b1 (zAsg (ixx (EN.o (bCat (EN.o (lcp [("_law_plot", 8), ("_law_number", 9)] s sc__law_facts.nd (jL (EP.o (dgx hv (vP 2) (EP.o cS)))) (blkOk_by (own := [("_law_plot", 8), ("_law_number", 9)]) (N := N__law_facts) (sc := defScope s__law_facts) (by decide +kernel)) (fun _ _ _ _ _ => (gT (gsC (gN 8 sc__law_facts.nd) (gsC (gN 9 sc__law_facts.nd) gs0)))) (fun _ _ _ _ _ => (ts1 (tcmp (kEq hu) (vO 9) (vO 7)))) (fun _ _ _ _ _ => (vP 8)))) (EN.o (dLst (yC cS yN))))) (EP.o cI)) (gN (S := [6]) 6 sc__law_facts.nd)))) PL.b0)
    (PL.b1 (zApp 4 (vO 4) (dTup (yC cS (yC (vP 5) (yC (vP 6) yN)))))))))
    (PL.b1 (zRetO 4 (vO 4)))))))

/-! law: _law_script 0, _law_plots_here 1, _law_names_here 2, _law_state 3, _law_cell 4, _law_row_here 5, _law_facts_here 6, _law_words 7, _law_word 8, _law_found 9, _law_fact 10, _law_due 11, _law_one 12 -/
abbrev s_law : Stmt := topS 26
abbrev N_law : List Str := ["_law_script", "_law_plots_here", "_law_names_here", "_law_state", "_law_cell", "_law_row_here", "_law_facts_here", "_law_words", "_law_word", "_law_found", "_law_fact", "_law_due", "_law_one"]
theorem sc_law : FnScope N_law ["_law_script"] (defScope s_law) := ⟨rfl, rfl, rfl, by decide +kernel, rfl, by decide +kernel, by decide +kernel⟩
def F_law (dm : LS → List PyData → Option LS) : PL.Env → Option Out := (sSeq (sAsg (eL (fun env => ((aCons (eVar 0) aNil) env).bind fun ds => if ds.length = 1 then f__law_plots ds else none)) (tgN 1))
    (sSeq (sAsg (eL (fun env => ((aCons (eVar 0) (aCons (eVar 1) aNil)) env).bind fun ds => if ds.length = 2 then f__law_names ds else none)) (tgN 2))
    (sSeq (sFresh 3)
    (sSeq (sFor (iLS (eL (nSl (eVarO 0) (oSome (eC (.int 6))) (oSome (eC (.int 20)))))) (tgN 4) (sDeed 3 (eVar 1) (eA (fun ds => if ds.length = 4 then (f__law_next ds).bind fun d => if noList d then some d else none else none) (aCons (eVarO 4) (aCons (eVarO 1) (aCons (eVarO 2) (aCons (eLs 3) aNil))))) dm))
    (sSeq (sAsg (eA (fun ds => if ds.length = 4 then f__law_row ds else none) (aCons (eA (fun ds => if ds.length = 2 then f__law_at ds else none) (aCons (eVar 0) (aCons (eC (.int 5)) aNil))) (aCons (eVar 1) (aCons (eVar 2) (aCons (eC (.int 9)) aNil))))) (tgN 5))
    (sSeq (sAsg (eL (fun env => ((aCons (eVarO 1) (aCons (eVarO 2) (aCons (eLs 3) aNil))) env).bind fun ds => if ds.length = 3 then (f__law_facts ds).bind fun es => if noListAll es then some es else none else none)) (tgN 6))
    (sSeq (sOwn (nLc (iLS (eVarO 6)) (tgN 10) (fun _ => some true) (eA (fun ds => if ds.length = 3 then f_wrong_by ds else none) (aCons (eL (nList (aCons (eVarO 1) aNil))) (aCons (eVar 5) (aCons (eVar 10) aNil)))) [10]) 7)
    (sFree 7 (sSeq (sAsg (eA (fun ds => if ds.length = 3 then (f__law_wrong ds).bind fun d => if noList d then some d else none else none) (aCons (eVarO 1) (aCons (eLs 3) (aCons (eVarO 5) aNil)))) (tgN 8))
    (sSeq (sIf (tE (e2 gNe (eVarO 8) (eC (.str "")))) (sRet (e2 (gInL false) (eVarO 8) (eVarO 7))) sNext)
    (sSeq (sIf (tE (e2 gNe (eL (nLc (iLS (eVarO 7)) (tgN 12) (tE (e2 gNe (eVarO 12) (eC (.str "")))) (eVar 12) [12])) (eL (nLst aNil)))) (sRet (eC (.bool false))) sNext)
    (sSeq (sOwn (nLst aNil) 9)
    (sSeq (sFor (iLS (eVar 6)) (tgN 10) (sExt 9 (eL (fun env => ((aCons (eL (nList (aCons (eVarO 1) aNil))) (aCons (eVar 5) (aCons (eVar 10) aNil))) env).bind fun ds => if ds.length = 3 then f_behind ds else none))))
    (sSeq (sIf (tE (e2 (gInT true) (e2 gIx (eVarO 5) (eC (.int 0))) (eTup (aCons (eC (.str "fork")) (aCons (eC (.str "go")) (aCons (eC (.str "end")) aNil)))))) (sDeed 3 (eVar 1) (eVar 5) dm) sNext)
    (sSeq (sAsg (eL (fun env => ((aCons (eVarO 1) (aCons (eVarO 2) (aCons (eLs 3) aNil))) env).bind fun ds => if ds.length = 3 then (f__law_facts ds).bind fun es => if noListAll es then some es else none else none)) (tgN 11))
    (sRet (eAndB (e2 gEq (eA gLen (aCons (eVarO 9) aNil)) (eA gLen (aCons (eVarO 11) aNil))) (e2 gEq (eL (nLc (iLS (eVarO 11)) (tgN 10) (tE (e2 (gInL true) (eVarO 10) (eVarO 9))) (eVar 10) [10])) (eL (nLst aNil))))))))))))))))))))
def f_law (dm : LS → List PyData → Option LS) : List PyData → Option PyData := fnD 13 (F_law dm)
theorem ok_law {f : Addr} {fd : FuncData} (F : Fun K "law" "law" s_law f fd) (T : Bt mg) {dm : LS → List PyData → Option LS} (C_law_plots : CalN P w K mg base 2 "_law_plots" 1 ["_law_script"] f__law_plots) (C_law_names : CalN P w K mg base 2 "_law_names" 2 ["_law_script", "_law_plots_here"] f__law_names) (C_law_fresh : CalF P w K mg base 1 "_law_fresh") (C_law_deed : CalM P w K mg base 2 "_law_deed" 3 1 ["_law_plots_here", "_law_state", "_law_row_here"] f__law_deed) (hdeed : Deeds f__law_deed dm) (C_law_next : Cal P w K mg base 3 "_law_next" 4 ["_law_cell", "_law_plots_here", "_law_names_here", "_law_state"] f__law_next) (C_law_row : Cal P w K mg base 1 "_law_row" 4 ["_law_cell", "_law_plots_here", "_law_names_here", "_law_size"] f__law_row) (C_law_at : Cal P w K mg base 1 "_law_at" 2 ["_law_script", "_law_k"] f__law_at) (C_law_facts : CalN P w K mg base 1 "_law_facts" 3 ["_law_plots_here", "_law_names_here", "_law_state"] f__law_facts) (Cwrong_by : Cal P w K mg base 3 "wrong_by" 3 ["plots", "row", "fact"] f_wrong_by) (C_law_wrong : Cal P w K mg base 2 "_law_wrong" 3 ["_law_plots_here", "_law_state", "_law_row_here"] f__law_wrong) (Cbehind : CalN P w K mg base 4 "behind" 3 ["plots", "row", "fact"] f_behind) : FnOk P w K mg base CX0 5 f fd ["_law_script"] (spD K 1 (f_law dm)) := by
  exact fn_den (N := N_law) F sc_law (by decide) fun cdv A outer s H E hr => by
    have hu : (A.deeper (envOfC "law" (defScope s_law) s.heap.objs.size f cdv)).units + 65 < cLine := by have := hr.un; omega
    have hv : (A.deeper (envOfC "law" (defScope s_law) s.heap.objs.size f cdv)).units + 1 < cLine := by omega
    exact ek_out (K := K) ((PL.bC (zAsg (EN.p (cal1N C_law_plots hr (by decide) (yC (vP 0) yN))) (gN (S := [1]) 1 sc_law.nd))
    (PL.bC (zAsg (EN.p (cal1N C_law_names hr (by decide) (yC (vP 0) (yC (vP 1) yN)))) (gN (S := [2]) 2 sc_law.nd))
    (PL.bC (zFresh 3 sc_law.nd C_law_fresh hr (by decide))
    (PL.bC (zFor (S := [4]) PassesOwn.never (iL (EN.p (slL (vO 0) (qS (EP.o cI)) (qS (EP.o cI))))) (gN 4 sc_law.nd) (PL.b1 (zDeed 3 C_law_deed hdeed hr (by decide) (vP 1) (pv 3) (cal1X C_law_next hr (by decide) (xC (vO 4) (xC (vO 1) (xC (vO 2) (xC (oLs 3 (pv 3)) xN))))))))
    (PL.bC (zAsg (cal1 C_law_row hr (by decide) (yC (cal1 C_law_at hr (by decide) (yC (vP 0) (yC cI yN))) (yC (vP 1) (yC (vP 2) (yC cI yN))))) (gN (S := [5]) 5 sc_law.nd))
    (PL.bC (zAsg (EN.p (cal1NX C_law_facts hr (by decide) (xC (vO 1) (xC (vO 2) (xC (oLs 3 (pv 3)) xN))))) (gN (S := [6]) 6 sc_law.nd))
    (PL.bC (zLc 7 [("_law_fact", 10)] s sc_law.nd (jL (vO 6)) (blkOk_by (own := [("_law_fact", 10)]) (N := N_law) (sc := defScope s_law) (by decide +kernel)) (fun _ _ _ _ _ => (gN 10 sc_law.nd)) (fun _ _ _ _ _ => ts0) (fun _ _ _ _ _ => (cal1 Cwrong_by hr (by decide) (yC (EN.p (fList T.list (ha := (xC (vO 1) xN)))) (yC (vP 5) (yC (vP 10) yN))))) (sw_true rfl rfl rfl (by decide +kernel)))
    (EK.free 7 (PL.bC (zAsg (cal1X C_law_wrong hr (by decide) (xC (vO 1) (xC (oLs 3 (pv 3)) (xC (vO 5) xN)))) (gN (S := [8]) 8 sc_law.nd))
    (PL.bC (zIf (tcmp (kNe hu) (vO 8) (EP.o cS)) (PL.b1 (zRet (cmp (kInL hu) (vO 8) (vO 7)))) PL.b0)
    (PL.bC (zIf (tcmp (kNe hu) (EN.o (lcp [("_law_one", 12)] s sc_law.nd (jL (vO 7)) (blkOk_by (own := [("_law_one", 12)]) (N := N_law) (sc := defScope s_law) (by decide +kernel)) (fun _ _ _ _ _ => (gN 12 sc_law.nd)) (fun _ _ _ _ _ => (ts1 (tcmp (kNe hu) (vO 12) (EP.o cS)))) (fun _ _ _ _ _ => (vP 12)))) (EN.o (dLst yN))) (PL.b1 (zRet cB)) PL.b0)
    (PL.bC (zOwn 9 sc_law.nd (dLst yN))
    (PL.bC (zFor (S := [10]) PassesOwn.never (iL (vP 6)) (gN 10 sc_law.nd) (PL.b1 (zExt 9 (vO 9) (EN.p (cal1N Cbehind hr (by decide) (yC (EN.p (fList T.list (ha := (xC (vO 1) xN)))) (yC (vP 5) (yC (vP 10) yN))))))))
    (PL.bC (zIf (tcmp kNiT (EP.o (ixx (vO 5) (EP.o cI))) (EP.o (dTup (yC cS (yC cS (yC cS yN)))))) (PL.b1 (zDeed 3 C_law_deed hdeed hr (by decide) (vP 1) (pv 3) (vP 5))) PL.b0)
    (PL.bC (zAsg (EN.p (cal1NX C_law_facts hr (by decide) (xC (vO 1) (xC (vO 2) (xC (oLs 3 (pv 3)) xN))))) (gN (S := [11]) 11 sc_law.nd))
    (PL.b1 (zRet (vAnd (EP.o (cmp (kEq hu) (EP.o (fLen T.len (ha := (xC (vO 9) xN)))) (EP.o (fLen T.len (ha := (xC (vO 11) xN)))))) (vOne (cmp (kEq hu) (EN.o (lcp [("_law_fact", 10)] s sc_law.nd (jL (vO 11)) (blkOk_by (own := [("_law_fact", 10)]) (N := N_law) (sc := defScope s_law) (by decide +kernel)) (fun _ _ _ _ _ => (gN 10 sc_law.nd)) (fun _ _ _ _ _ => (ts1 (tcmp (kNiL hu) (vO 10) (vO 9)))) (fun _ _ _ _ _ => (vP 10)))) (EN.o (dLst yN)))))))))))))))))))))))

end
end K09
namespace K09
open PySem L2 PySem.Spec PyProof.Rows PL PR
theorem m_at (ns : List Int) (k : Nat) : f__law_at [scrD (ns.map PyData.int), .int k] = some (.int (ns.getD k 0)) := by
  unfold f__law_at fnD F__law_at
  simp [sSeq, sIf, tE, e2, eVarO, eVar, fEnv, gB, eA, aCons, aNil, gLen, dLen, scrD, asB, sRet, sNext, bindO, outD, gIx, eC, atI, ixN]
  by_cases h : k < ns.length
  · simp [h]
  · simp [h, List.getElem?_eq_none (Nat.le_of_not_lt h)]
theorem m_called (c : Int) (k : Nat) (sg : Str) (hs : (cs sg).length ≤ 2) : f__law_called [.int c, .int k, .str sg] = some (.str ⟨(callL c k (cs sg)).toArray⟩) := by
  have hl : sg.length ≤ 2 := by rw [← cs_len]; exact hs
  unfold f__law_called fnD F__law_called
  have h0 : fEnv 9 [PyData.int c, .int k, .str sg] = [.sh (.int c), .sh (.int k), .sh (.str sg), .un, .un, .un, .un, .un, .un] := rfl
  rw [h0, seq_asg rfl, seq_asg (add_ev rfl (mul_ev (mul_ev rfl rfl (cmul_l (by omega))) (mod_ev rfl rfl (by omega)) (cmul_r (by omega)))),
    seq_asg (mod_ev (div_ev rfl rfl (by omega)) (sub_ev rfl (lent_ev (z := sg) rfl (by omega))) (by omega))]
  generalize ht : c + 31 * (k : Int) * (c % 2) = t
  generalize hn : t / 26 % (9 - (sg.length : Int)) = n
  have hn0 : 0 ≤ n ∧ n ≤ 8 := by
    have := Int.emod_nonneg (t / 26) (show (9 - (sg.length : Int)) ≠ 0 by omega)
    have := Int.emod_lt_of_pos (t / 26) (show 0 < (9 - (sg.length : Int)) by omega)
    omega
  obtain ⟨N, rfl⟩ := Int.eq_ofNat_of_zero_le hn0.1
  have hN : N ≤ 8 := by omega
  have hcomp : nLc (iR1 (aCons (eVarO 5) aNil)) (tgN 8) (fun _ => some true) (e2 gIx (eVarO 3) (e2 (gIC cMod (· % ·)) (e2 gAdd (eVarO 4) (e2 (gIC cMul (· * ·)) (e2 (gIC cMul (· * ·)) (eC (.int 5)) (eVarO 8)) (e2 gAdd (eC (.int 1)) (e2 (gIC cMod (· % ·)) (eVarO 4) (eC (.int 3)))))) (eC (.int 26)))) [8]
      [.sh (.int c), .sh (.int k), .sh (.str sg), .sh (.str "abcdefghijklmnopqrstuvwxyz"), .sh (.int t), .sh (.int (N : Int)), .un, .un, .un] = some ((callT t N).map fun c => .str ⟨#[c]⟩) := by
    unfold nLc
    have h1 : iR1 (aCons (eVarO 5) aNil) [.sh (.int c), .sh (.int k), .sh (.str sg), .sh (.str "abcdefghijklmnopqrstuvwxyz"), .sh (.int t), .sh (.int (N : Int)), .un, .un, .un] = some (rgD 0 N) := by
      show (if -100000 ≤ (N : Int) ∧ (N : Int) ≤ 100000 then some (rgD 0 (N : Int).toNat) else none) = _
      rw [if_pos (by omega), Int.toNat_natCast]
    rw [h1, Option.bind_some, if_pos (by unfold rgD; rw [List.length_map, List.length_range]; omega)]
    rw [lc_all (fun x => [.sh (.int c), .sh (.int k), .sh (.str sg), .sh (.str "abcdefghijklmnopqrstuvwxyz"), .sh (.int t), .sh (.int (N : Int)), .un, .un, .sh x]) (fun x => match x with | .int j => .str ⟨#[97 + ((t + 5 * j * (1 + t % 3)) % 26).toNat]⟩ | _ => .none) _ (fun x _ => rfl)]
    · unfold rgD callT
      rw [List.map_map, List.map_map]
      congr 1
      apply List.map_congr_left
      intro j _
      show PyData.str ⟨#[97 + ((t + 5 * (0 + (j : Int)) * (1 + t % 3)) % 26).toNat]⟩ = PyData.str ⟨#[97 + ((t + 5 * (j : Int) * (1 + t % 3)) % 26).toNat]⟩
      rw [Int.zero_add]
    · intro x hx
      unfold rgD at hx
      obtain ⟨j, _, rfl⟩ := List.mem_map.mp hx
      have hm := mod_ev (env := [.sh (.int c), .sh (.int k), .sh (.str sg), .sh (.str "abcdefghijklmnopqrstuvwxyz"), .sh (.int t), .sh (.int (N : Int)), .un, .un, .sh (.int (0 + (j : Int)))]) (a := e2 gAdd (eVarO 4) (e2 (gIC cMul (· * ·)) (e2 (gIC cMul (· * ·)) (eC (.int 5)) (eVarO 8)) (e2 gAdd (eC (.int 1)) (e2 (gIC cMod (· % ·)) (eVarO 4) (eC (.int 3)))))) (b := eC (.int 26)) (add_ev rfl (mul_ev (mul_ev rfl rfl (cmul_l (by omega))) (add_ev rfl (mod_ev rfl rfl (by omega))) (cmul_r (by omega)))) rfl (by omega)
      show (eVarO 3 _).bind (fun x => (e2 (gIC cMod (· % ·)) _ _ _).bind fun y => gIx x y) = _
      rw [hm]
      exact letter_at _ (Int.emod_nonneg _ (by omega)) (Int.emod_lt_of_pos _ (by omega))
  obtain ⟨z, hz, hcz⟩ := join_ev hcomp (by unfold callT; rw [List.length_map, List.length_range]; omega)
  have hzl : z.length = N := by
    rw [← cs_len, hcz]
    unfold callT
    rw [List.length_map, List.length_range]
  rw [show ((([Sl.sh (PyData.int c), .sh (.int k), .sh (.str sg), .un, .un, .un, .un, .un, .un].set 3 (.sh (.str "abcdefghijklmnopqrstuvwxyz"))).set 4 (.sh (.int t))).set 5 (.sh (.int (N : Int)))) = [.sh (.int c), .sh (.int k), .sh (.str sg), .sh (.str "abcdefghijklmnopqrstuvwxyz"), .sh (.int t), .sh (.int (N : Int)), .un, .un, .un] from rfl]
  rw [seq_asg hz, seq_asg rfl, if_seq (eqi_ev (mod_ev rfl rfl (by omega)) rfl)]
  have fin : ∀ p : Nat, outD (sRet (e2 gAdd (e2 gAdd (eSlS (eVarO 6) oNone (oSome (eVarO 7))) (eVarO 2)) (eSlS (eVarO 6) (oSome (eVarO 7)) oNone)) [.sh (.int c), .sh (.int k), .sh (.str sg), .sh (.str "abcdefghijklmnopqrstuvwxyz"), .sh (.int t), .sh (.int (N : Int)), .sh (.str z), .sh (.int (p : Int)), .un]) = some (.str ⟨((callT t N).take p ++ cs sg ++ (callT t N).drop p).toArray⟩) := fun p => by
    have e1 := cut_to_ev (env := [.sh (.int c), .sh (.int k), .sh (.str sg), .sh (.str "abcdefghijklmnopqrstuvwxyz"), .sh (.int t), .sh (.int (N : Int)), .sh (.str z), .sh (.int (p : Int)), .un]) (f := eVarO 6) (g := eVarO 7) (z := z) (k := p) rfl rfl (by omega)
    have e2' := cut_from_ev (env := [.sh (.int c), .sh (.int k), .sh (.str sg), .sh (.str "abcdefghijklmnopqrstuvwxyz"), .sh (.int t), .sh (.int (N : Int)), .sh (.str z), .sh (.int (p : Int)), .un]) (f := eVarO 6) (g := eVarO 7) (z := z) (k := p) rfl rfl (by omega)
    have l1 : (cutS z none (some (p : Int))).length ≤ 8 := by rw [← cs_len, cs_cut_to, List.length_take, cs_len]; omega
    have l2 : (cutS z (some (p : Int)) none).length ≤ 8 := by rw [← cs_len, cs_cut_from, List.length_drop, cs_len]; omega
    have e3 := cat_ev (a := eSlS (eVarO 6) oNone (oSome (eVarO 7))) (b := eVarO 2) e1 (show eVarO 2 _ = some (.str sg) from rfl) (by omega)
    have l3 : (cutS z none (some (p : Int)) ++ sg).length ≤ 10 := by rw [← cs_len, cs_app, List.length_append, cs_len, cs_len]; omega
    have e4 := cat_ev e3 e2' (by omega)
    unfold sRet
    rw [e4]
    show some (PyData.str _) = some (PyData.str _)
    congr 2
    apply cs_inj
    rw [cs_app, cs_app, cs_cut_to, cs_cut_from, hcz]
    rfl
  unfold callL
  simp only [ht, cs_len]
  rw [hn, Int.toNat_natCast]
  by_cases he : c % 2 = 0
  · rw [decide_eq_true he, if_pos rfl, if_pos he]
    rw [seq_asg (mod_ev (div_ev rfl rfl (by omega)) (add_ev rfl rfl) (by omega))]
    have hp := Int.emod_nonneg (c / 4) (show ((N : Int) + 1) ≠ 0 by omega)
    obtain ⟨p, hp⟩ := Int.eq_ofNat_of_zero_le hp
    rw [hp, Int.toNat_natCast]
    exact fin p
  · rw [decide_eq_false he, if_neg Bool.false_ne_true, if_neg he, next_seq]
    exact fin N
theorem out_loop (dps dpl : PyData) : ∀ (l : List (Str × Option Str)) (acc : List Str) (w : Option Str) (a b : Sl), l.all okP = true → (∀ x, w = some x → PyData.strOk x = true) → acc.length + l.length ≤ 50000 →
    ∃ w' a' b', fGo (tgT 2 (tgCons (tgN 4) (tgCons (tgN 5) tgNil))) (sIf (tE (e2 gEq (eVarO 4) (eVarO 3))) (sSeq (sApp 2 (eVar 4)) (sAsg (eVar 5) (tgN 3))) sNext) (l.map encP) [.sh dps, .sh dpl, .own (acc.map PyData.str), .sh (optD w), a, b]
      = some (.nx [.sh dps, .sh dpl, .own ((acc ++ outGo l w).map PyData.str), .sh (optD w'), a', b'])
  | [], acc, w, a, b, _, _, _ => ⟨w, a, b, by rw [show outGo [] w = [] from rfl, List.append_nil]; rfl⟩
  | (n, o) :: l, acc, w, a, b, hl, hw, hz => by
    rw [List.all_cons, Bool.and_eq_true] at hl
    have hn : PyData.strOk n = true := by
      have := hl.1
      unfold okP at this
      rw [Bool.and_eq_true] at this
      exact this.1
    have ho : ∀ x, o = some x → PyData.strOk x = true := fun x e => by
      have := hl.1
      unfold okP at this
      rw [Bool.and_eq_true, e] at this
      exact this.2
    rw [List.length_cons] at hz
    have he := eqs_ev (env := [.sh dps, .sh dpl, .own (acc.map PyData.str), .sh (optD w), .sh (.str n), .sh (optD o)]) (a := eVarO 4) (b := eVarO 3) (n := n) (w := w) rfl rfl hn hw
    by_cases e : w = some n
    · have h1 : sIf (tE (e2 gEq (eVarO 4) (eVarO 3))) (sSeq (sApp 2 (eVar 4)) (sAsg (eVar 5) (tgN 3))) sNext [.sh dps, .sh dpl, .own (acc.map PyData.str), .sh (optD w), .sh (.str n), .sh (optD o)] = some (.nx [.sh dps, .sh dpl, .own (acc.map PyData.str ++ [.str n]), .sh (optD o), .sh (.str n), .sh (optD o)]) := by
        rw [if_yes (by rw [he, decide_eq_true e]), seq_nx (app_nx rfl rfl (by rw [List.length_map]; omega))]
        rfl
      obtain ⟨w', a', b', h2⟩ := out_loop dps dpl l (acc ++ [n]) o (.sh (.str n)) (.sh (optD o)) hl.2 ho (by rw [List.length_append, List.length_singleton]; omega)
      refine ⟨w', a', b', ?_⟩
      rw [List.map_cons, fgo_nx (e1 := [.sh dps, .sh dpl, .own (acc.map PyData.str), .sh (optD w), .sh (.str n), .sh (optD o)]) rfl h1]
      rw [List.map_append] at h2
      refine h2.trans ?_
      rw [List.append_assoc]
      show _ = some (Out.nx [.sh dps, .sh dpl, .own ((acc ++ (if w = some n then n :: outGo l o else outGo l w)).map PyData.str), .sh (optD w'), a', b'])
      rw [if_pos e]
      rfl
    · have h1 : sIf (tE (e2 gEq (eVarO 4) (eVarO 3))) (sSeq (sApp 2 (eVar 4)) (sAsg (eVar 5) (tgN 3))) sNext [.sh dps, .sh dpl, .own (acc.map PyData.str), .sh (optD w), .sh (.str n), .sh (optD o)] = some (.nx [.sh dps, .sh dpl, .own (acc.map PyData.str), .sh (optD w), .sh (.str n), .sh (optD o)]) := by
        rw [if_no (by rw [he, decide_eq_false e])]
        rfl
      obtain ⟨w', a', b', h2⟩ := out_loop dps dpl l acc w (.sh (.str n)) (.sh (optD o)) hl.2 hw (by omega)
      refine ⟨w', a', b', ?_⟩
      rw [List.map_cons, fgo_nx (e1 := [.sh dps, .sh dpl, .own (acc.map PyData.str), .sh (optD w), .sh (.str n), .sh (optD o)]) rfl h1]
      refine h2.trans ?_
      show _ = some (Out.nx [.sh dps, .sh dpl, .own ((acc ++ (if w = some n then n :: outGo l o else outGo l w)).map PyData.str), .sh (optD w'), a', b'])
      rw [if_neg e]
theorem m_outward (ps : List (Str × Option Str)) (hk : ps.all okP = true) (hl : ps.length ≤ 1000) (x : Str) (hx : PyData.strOk x = true) : f_outward [encPs ps, .str x] = some ((outM ps x).map PyData.str) := by
  unfold f_outward fnN F_outward
  have h0 : fEnv 6 [encPs ps, PyData.str x] = [.sh (encPs ps), .sh (.str x), .un, .un, .un, .un] := rfl
  rw [h0]
  obtain ⟨w', a', b', h2⟩ := out_loop (encPs ps) (.str x) ps.reverse [] (some x) .un .un (all_rev hk) (fun y e => by cases e; exact hx) (by rw [List.length_reverse, List.length_nil]; omega)
  have h3 : sFor (iRv (aCons (eVar 0) aNil)) (tgT 2 (tgCons (tgN 4) (tgCons (tgN 5) tgNil))) (sIf (tE (e2 gEq (eVarO 4) (eVarO 3))) (sSeq (sApp 2 (eVar 4)) (sAsg (eVar 5) (tgN 3))) sNext) [.sh (encPs ps), .sh (.str x), .own [], .sh (.str x), .un, .un]
      = some (.nx [.sh (encPs ps), .sh (.str x), .own ((outM ps x).map PyData.str), .sh (optD w'), a', b']) := by
    show fGo _ _ (ps.map encP).reverse _ = _
    rw [← List.map_reverse]
    exact h2
  have h4 : sSeq (sOwn (nLst aNil) 2) (sSeq (sAsg (eVar 1) (tgN 3)) (sSeq (sFor (iRv (aCons (eVar 0) aNil)) (tgT 2 (tgCons (tgN 4) (tgCons (tgN 5) tgNil))) (sIf (tE (e2 gEq (eVarO 4) (eVarO 3))) (sSeq (sApp 2 (eVar 4)) (sAsg (eVar 5) (tgN 3))) sNext)) (sRetO 2))) [.sh (encPs ps), .sh (.str x), .un, .un, .un, .un] = some (.rtn ((outM ps x).map PyData.str)) := by
    show (sSeq (sFor _ _ _) (sRetO 2)) [.sh (encPs ps), .sh (.str x), .own [], .sh (.str x), .un, .un] = _
    rw [seq_nx h3]
    rfl
  rw [h4]
theorem out_math : ∀ ps : List (Str × Option Str), ps.all okP = true → ps.length ≤ 1000 → ∀ q ∈ ps, f_outward [encPs ps, .str q.1] = some ((outM ps q.1).map PyData.str) := fun ps h hl q m => m_outward ps h hl q.1 (by
  have := List.all_eq_true.mp h q m
  unfold okP at this
  rw [Bool.and_eq_true] at this
  exact this.1)
theorem lout_loop (dps : PyData) : ∀ (l : List (Str × Option Str)) (acc : List Str) (w : Option Str) (a b : Sl), l.all okP = true → (∀ x, w = some x → PyData.strOk x = true) → acc.length + l.length ≤ 50000 →
    ∃ w' a' b', fGo (tgT 2 (tgCons (tgN 3) (tgCons (tgN 4) tgNil))) (sIf (tE (e2 gEq (eVarO 3) (eVarO 1))) (sSeq (sApp 2 (eVar 3)) (sAsg (eVar 4) (tgN 1))) sNext) (l.map encP) [.sh dps, .sh (optD w), .own (acc.map PyData.str), a, b]
      = some (.nx [.sh dps, .sh (optD w'), .own ((acc ++ outGo l w).map PyData.str), a', b'])
  | [], acc, w, a, b, _, _, _ => ⟨w, a, b, by rw [show outGo [] w = [] from rfl, List.append_nil]; rfl⟩
  | (n, o) :: l, acc, w, a, b, hl, hw, hz => by
    rw [List.all_cons, Bool.and_eq_true] at hl
    have hn : PyData.strOk n = true := by
      have := hl.1
      unfold okP at this
      rw [Bool.and_eq_true] at this
      exact this.1
    have ho : ∀ x, o = some x → PyData.strOk x = true := fun x e => by
      have := hl.1
      unfold okP at this
      rw [Bool.and_eq_true, e] at this
      exact this.2
    rw [List.length_cons] at hz
    have he := eqs_ev (env := [.sh dps, .sh (optD w), .own (acc.map PyData.str), .sh (.str n), .sh (optD o)]) (a := eVarO 3) (b := eVarO 1) (n := n) (w := w) rfl rfl hn hw
    by_cases e : w = some n
    · have h1 : sIf (tE (e2 gEq (eVarO 3) (eVarO 1))) (sSeq (sApp 2 (eVar 3)) (sAsg (eVar 4) (tgN 1))) sNext [.sh dps, .sh (optD w), .own (acc.map PyData.str), .sh (.str n), .sh (optD o)] = some (.nx [.sh dps, .sh (optD o), .own (acc.map PyData.str ++ [.str n]), .sh (.str n), .sh (optD o)]) := by
        rw [if_yes (by rw [he, decide_eq_true e]), seq_nx (app_nx rfl rfl (by rw [List.length_map]; omega))]
        rfl
      obtain ⟨w', a', b', h2⟩ := lout_loop dps l (acc ++ [n]) o (.sh (.str n)) (.sh (optD o)) hl.2 ho (by rw [List.length_append, List.length_singleton]; omega)
      refine ⟨w', a', b', ?_⟩
      rw [List.map_cons, fgo_nx (e1 := [.sh dps, .sh (optD w), .own (acc.map PyData.str), .sh (.str n), .sh (optD o)]) rfl h1]
      rw [List.map_append] at h2
      refine h2.trans ?_
      rw [List.append_assoc]
      show _ = some (Out.nx [.sh dps, .sh (optD w'), .own ((acc ++ (if w = some n then n :: outGo l o else outGo l w)).map PyData.str), a', b'])
      rw [if_pos e]
      rfl
    · have h1 : sIf (tE (e2 gEq (eVarO 3) (eVarO 1))) (sSeq (sApp 2 (eVar 3)) (sAsg (eVar 4) (tgN 1))) sNext [.sh dps, .sh (optD w), .own (acc.map PyData.str), .sh (.str n), .sh (optD o)] = some (.nx [.sh dps, .sh (optD w), .own (acc.map PyData.str), .sh (.str n), .sh (optD o)]) := by
        rw [if_no (by rw [he, decide_eq_false e])]
        rfl
      obtain ⟨w', a', b', h2⟩ := lout_loop dps l acc w (.sh (.str n)) (.sh (optD o)) hl.2 hw (by omega)
      refine ⟨w', a', b', ?_⟩
      rw [List.map_cons, fgo_nx (e1 := [.sh dps, .sh (optD w), .own (acc.map PyData.str), .sh (.str n), .sh (optD o)]) rfl h1]
      refine h2.trans ?_
      show _ = some (Out.nx [.sh dps, .sh (optD w'), .own ((acc ++ (if w = some n then n :: outGo l o else outGo l w)).map PyData.str), a', b'])
      rw [if_neg e]
theorem m_loutward (ps : List (Str × Option Str)) (hk : ps.all okP = true) (hl : ps.length ≤ 1000) (x : Str) (hx : PyData.strOk x = true) : f__law_outward [encPs ps, .str x] = some ((outM ps x).map PyData.str) := by
  unfold f__law_outward fnN F__law_outward
  have h0 : fEnv 5 [encPs ps, PyData.str x] = [.sh (encPs ps), .sh (.str x), .un, .un, .un] := rfl
  rw [h0]
  obtain ⟨w', a', b', h2⟩ := lout_loop (encPs ps) ps.reverse [] (some x) .un .un (all_rev hk) (fun y e => by cases e; exact hx) (by rw [List.length_reverse, List.length_nil]; omega)
  have h3 : sFor (iLS (eL (nRev (eVarO 0)))) (tgT 2 (tgCons (tgN 3) (tgCons (tgN 4) tgNil))) (sIf (tE (e2 gEq (eVarO 3) (eVarO 1))) (sSeq (sApp 2 (eVar 3)) (sAsg (eVar 4) (tgN 1))) sNext) [.sh (encPs ps), .sh (.str x), .own [], .un, .un]
      = some (.nx [.sh (encPs ps), .sh (optD w'), .own ((outM ps x).map PyData.str), a', b']) := by
    show fGo _ _ (ps.map encP).reverse _ = _
    rw [← List.map_reverse]
    exact h2
  have h4 : sSeq (sOwn (nLst aNil) 2) (sSeq (sFor (iLS (eL (nRev (eVarO 0)))) (tgT 2 (tgCons (tgN 3) (tgCons (tgN 4) tgNil))) (sIf (tE (e2 gEq (eVarO 3) (eVarO 1))) (sSeq (sApp 2 (eVar 3)) (sAsg (eVar 4) (tgN 1))) sNext)) (sRetO 2)) [.sh (encPs ps), .sh (.str x), .un, .un, .un] = some (.rtn ((outM ps x).map PyData.str)) := by
    show (sSeq (sFor _ _ _) (sRetO 2)) [.sh (encPs ps), .sh (.str x), .own [], .un, .un] = _
    rw [seq_nx h3]
    rfl
  rw [h4]
theorem at_ev {env : PL.Env} {ns : List Int} {k : Nat} (h : env[0]? = some (.sh (scrD (ns.map PyData.int)))) : eA (fun ds => if ds.length = 2 then f__law_at ds else none) (aCons (eVar 0) (aCons (eC (.int (k : Int))) aNil)) env = some (.int (ns.getD k 0)) := by
  refine call2_ev (x := scrD (ns.map PyData.int)) (y := .int (k : Int)) ?_ rfl (m_at ns k)
  unfold eVar
  rw [h]
theorem at0_ev {env : PL.Env} {ns : List Int} (h : env[0]? = some (.sh (scrD (ns.map PyData.int)))) : eA (fun ds => if ds.length = 2 then f__law_at ds else none) (aCons (eVar 0) (aCons (eC (.int 0)) aNil)) env = some (.int (ns.getD 0 0)) := at_ev (k := 0) h
theorem at1_ev {env : PL.Env} {ns : List Int} (h : env[0]? = some (.sh (scrD (ns.map PyData.int)))) : eA (fun ds => if ds.length = 2 then f__law_at ds else none) (aCons (eVar 0) (aCons (eC (.int 1)) aNil)) env = some (.int (ns.getD 1 0)) := at_ev (k := 1) h
theorem at2_ev {env : PL.Env} {ns : List Int} (h : env[0]? = some (.sh (scrD (ns.map PyData.int)))) : eA (fun ds => if ds.length = 2 then f__law_at ds else none) (aCons (eVar 0) (aCons (eC (.int 2)) aNil)) env = some (.int (ns.getD 2 0)) := at_ev (k := 2) h
theorem at3_ev {env : PL.Env} {ns : List Int} (h : env[0]? = some (.sh (scrD (ns.map PyData.int)))) : eA (fun ds => if ds.length = 2 then f__law_at ds else none) (aCons (eVar 0) (aCons (eC (.int 3)) aNil)) env = some (.int (ns.getD 3 0)) := at_ev (k := 3) h
theorem at4_ev {env : PL.Env} {ns : List Int} (h : env[0]? = some (.sh (scrD (ns.map PyData.int)))) : eA (fun ds => if ds.length = 2 then f__law_at ds else none) (aCons (eVar 0) (aCons (eC (.int 4)) aNil)) env = some (.int (ns.getD 4 0)) := at_ev (k := 4) h
theorem at5_ev {env : PL.Env} {ns : List Int} (h : env[0]? = some (.sh (scrD (ns.map PyData.int)))) : eA (fun ds => if ds.length = 2 then f__law_at ds else none) (aCons (eVar 0) (aCons (eC (.int 5)) aNil)) env = some (.int (ns.getD 5 0)) := at_ev (k := 5) h
def plotsBody : PL.Env → Option Out := (sSeq (sAsg (e2 (gIC cMod (· % ·)) (e2 (gIC cMod (· % ·)) (e2 (gIC cMul (· * ·)) (e2 gAdd (eA (fun ds => if ds.length = 2 then f__law_at ds else none) (aCons (eVar 0) (aCons (eC (.int 1)) aNil))) (e2 (gIC cMul (· * ·)) (eC (.int 7)) (eVarO 3))) (eC (.int 48271))) (eC (.int 10007))) (e2 gAdd (eVarO 3) (eC (.int 1)))) (tgN 4))
    (sSeq (sIf (tA (tE (e2 gEq (e2 (gIC cMod (· % ·)) (eA (fun ds => if ds.length = 2 then f__law_at ds else none) (aCons (eVar 0) (aCons (eC (.int 1)) aNil))) (eC (.int 4))) (eC (.int 3)))) (tE (e2 (gB fun i j => decide (j < i)) (eVarO 3) (eC (.int 0))))) (sAsg (e2 (gI (· - ·)) (eVarO 3) (eC (.int 1))) (tgN 4)) sNext)
    (sSeq (sAsg (eC .none) (tgN 5))
    (sSeq (sIf (tE (e2 (gB fun i j => decide (i < j)) (eVarO 4) (eVarO 3))) (sAsg (e2 gIx (e2 gIx (eVarO 2) (eVarO 4)) (eC (.int 0))) (tgN 5)) sNext)
    (sApp 2 (eTup (aCons (eA (fun ds => if ds.length = 3 then f__law_called ds else none) (aCons (e2 (gIC cDiv (· / ·)) (eA (fun ds => if ds.length = 2 then f__law_at ds else none) (aCons (eVar 0) (aCons (eC (.int 1)) aNil))) (eC (.int 3))) (aCons (eVar 3) (aCons (e2 gIx (eC (.str "abcdefghijkl")) (eVarO 3)) aNil)))) (aCons (eVar 5) aNil))))))))
theorem plots_turn (ns : List Int) (many : PyData) (i : Nat) (hi : i < 12) (a b c : Sl) :
    ∃ b' c', plotsBody
      [.sh (scrD (ns.map PyData.int)), .sh many, .own (((List.range i).map (plotM ns)).map encP), .sh (.int (i : Int)), b, c] = some (.nx [.sh (scrD (ns.map PyData.int)), .sh many, .own (((List.range (i + 1)).map (plotM ns)).map encP), .sh (.int (i : Int)), b', c']) := by
  unfold plotsBody
  rw [seq_asg (mod_ev (mod_ev (mul_ev (add_ev (at1_ev rfl) (mul_ev rfl rfl (cmul_l (by omega)))) rfl (cmul_r (by omega))) rfl (by omega)) (add_ev rfl rfl) (by omega))]
  rw [if_seq (tA_ev (eqi_ev (mod_ev (at1_ev rfl) rfl (by omega)) rfl) (fun _ => gt_ev rfl rfl))]
  have hpick : ∃ p : Nat, pickM ns i = (p : Int) := Int.eq_ofNat_of_zero_le (pickM_nn ns i)
  obtain ⟨p, hp⟩ := hpick
  dsimp only [List.set]
  have h2 : ∀ R : PL.Env → Option Out, sSeq (if (decide (ns.getD 1 0 % 4 = 3) && decide ((0 : Int) < (i : Int))) = true then sAsg (e2 (gI (· - ·)) (eVarO 3) (eC (.int 1))) (tgN 4) else sNext) R
      [.sh (scrD (ns.map PyData.int)), .sh many, .own (((List.range i).map (plotM ns)).map encP), .sh (.int (i : Int)), .sh (.int ((ns.getD 1 0 + 7 * (i : Int)) * 48271 % 10007 % ((i : Int) + 1))), c]
    = R [.sh (scrD (ns.map PyData.int)), .sh many, .own (((List.range i).map (plotM ns)).map encP), .sh (.int (i : Int)), .sh (.int (p : Int)), c] := fun R => by
    rw [← hp]
    unfold pickM
    by_cases hc : ns.getD 1 0 % 4 = 3 ∧ 0 < i
    · rw [if_pos hc, if_pos (by rw [Bool.and_eq_true, decide_eq_true_eq, decide_eq_true_eq]; omega)]
      rw [seq_nx (asg_nx (sub_ev rfl rfl))]
      rfl
    · rw [if_neg hc, if_neg (by rw [Bool.and_eq_true, decide_eq_true_eq, decide_eq_true_eq]; omega)]
      rfl
  rw [h2, seq_nx (asg_nx (d := .none) rfl)]
  dsimp only [List.set]
  have hname : ∀ s4 s5 : Sl, eA (fun ds => if ds.length = 3 then f__law_called ds else none) (aCons (e2 (gIC cDiv (· / ·)) (eA (fun ds => if ds.length = 2 then f__law_at ds else none) (aCons (eVar 0) (aCons (eC (.int 1)) aNil))) (eC (.int 3))) (aCons (eVar 3) (aCons (e2 gIx (eC (.str "abcdefghijkl")) (eVarO 3)) aNil))) [.sh (scrD (ns.map PyData.int)), .sh many, .own (((List.range i).map (plotM ns)).map encP), .sh (.int (i : Int)), s4, s5] = some (.str (nameM ns i)) := fun s4 s5 => by
    refine call3_ev (div_ev (at1_ev rfl) rfl (by omega)) (y := .int (i : Int)) rfl (u := .str ⟨#[97 + i]⟩) ?_ ?_
    · show (if (Str.ofString "abcdefghijkl").length ≤ 100000 then (atI (Str.ofString "abcdefghijkl").cps.toList ((i : Nat) : Int)).map fun c => PyData.str ⟨#[c]⟩ else none) = _
      rw [if_pos (by decide +kernel), abc_at i hi]
      rfl
    · have := m_called (ns.getD 1 0 / 3) i ⟨#[97 + i]⟩ (by show 1 ≤ 2; decide)
      exact this
  have happ : ∀ (s4 : Sl) (o : Option Str), sApp 2 (eTup (aCons (eA (fun ds => if ds.length = 3 then f__law_called ds else none) (aCons (e2 (gIC cDiv (· / ·)) (eA (fun ds => if ds.length = 2 then f__law_at ds else none) (aCons (eVar 0) (aCons (eC (.int 1)) aNil))) (eC (.int 3))) (aCons (eVar 3) (aCons (e2 gIx (eC (.str "abcdefghijkl")) (eVarO 3)) aNil)))) (aCons (eVar 5) aNil))) [.sh (scrD (ns.map PyData.int)), .sh many, .own (((List.range i).map (plotM ns)).map encP), .sh (.int (i : Int)), s4, .sh (optD o)] = some (.nx [.sh (scrD (ns.map PyData.int)), .sh many, .own (((List.range i).map (plotM ns)).map encP ++ [encP (nameM ns i, o)]), .sh (.int (i : Int)), s4, .sh (optD o)]) := fun s4 o => by
    rw [app_nx (ds := ((List.range i).map (plotM ns)).map encP) rfl (tup2_ev (hname _ _) rfl) (by rw [List.length_map, List.length_map, List.length_range]; omega)]
    rfl
  have hdone : ((List.range (i + 1)).map (plotM ns)).map encP = ((List.range i).map (plotM ns)).map encP ++ [encP (plotM ns i)] := by
    rw [List.range_succ, List.map_append, List.map_append]
    rfl
  rw [if_seq (lt_ev rfl rfl)]
  by_cases hc : (p : Int) < (i : Int)
  · rw [decide_eq_true hc, if_pos rfl]
    have hpl : plotM ns i = (nameM ns i, some (nameM ns p)) := by
      unfold plotM
      rw [hp, if_pos hc, Int.toNat_natCast]
    have h5 : e2 gIx (e2 gIx (eVarO 2) (eVarO 4)) (eC (.int 0)) [.sh (scrD (ns.map PyData.int)), .sh many, .own (((List.range i).map (plotM ns)).map encP), .sh (.int (i : Int)), .sh (.int (p : Int)), .sh .none] = some (.str (nameM ns p)) := by
      refine ixt_ev (ds := [.str (nameM ns p), optD (plotM ns p).2]) (ix_ev (ds := ((List.range i).map (plotM ns)).map encP) rfl rfl ?_) rfl rfl
      refine atI_nat' ?_
      rw [List.getElem?_map, List.getElem?_map, List.getElem?_range (by omega)]
      rfl
    rw [seq_nx (asg_nx h5)]
    dsimp only [List.set]
    refine ⟨.sh (.int (p : Int)), .sh (optD (some (nameM ns p))), (happ _ (some (nameM ns p))).trans ?_⟩
    rw [hdone, hpl]
  · rw [decide_eq_false hc, if_neg Bool.false_ne_true, next_seq]
    have hpl : plotM ns i = (nameM ns i, none) := by
      unfold plotM
      rw [hp, if_neg hc]
    refine ⟨.sh (.int (p : Int)), .sh (optD none), (happ _ none).trans ?_⟩
    rw [hdone, hpl]
theorem m_plots (ns : List Int) : f__law_plots [scrD (ns.map PyData.int)] = some ((plotsM ns).map encP) := by
  unfold f__law_plots fnN F__law_plots
  have h0 : fEnv 6 [scrD (ns.map PyData.int)] = [.sh (scrD (ns.map PyData.int)), .un, .un, .un, .un, .un] := rfl
  rw [h0, seq_asg (add_ev rfl (mod_ev (at0_ev rfl) rfl (by omega))), if_seq (eqi_ev (mod_ev (div_ev (at0_ev rfl) rfl (by omega)) rfl (by omega)) rfl)]
  dsimp only [List.set]
  have hm := manyM_le ns
  generalize hrest : sSeq (sOwn (nLst aNil) 2) _ = rest
  have h1 : sSeq (if decide (ns.getD 0 0 / 4 % 8 = 1) = true then sAsg (e2 (gI (· - ·)) (eC (.int 12)) (e2 (gIC cMod (· % ·)) (e2 (gIC cDiv (· / ·)) (eA (fun ds => if ds.length = 2 then f__law_at ds else none) (aCons (eVar 0) (aCons (eC (.int 0)) aNil))) (eC (.int 32))) (eC (.int 8)))) (tgN 1) else sNext) rest [.sh (scrD (ns.map PyData.int)), .sh (.int (1 + ns.getD 0 0 % 4)), .un, .un, .un, .un] = rest [.sh (scrD (ns.map PyData.int)), .sh (.int (manyM ns : Int)), .un, .un, .un, .un] := by
    by_cases hc : ns.getD 0 0 / 4 % 8 = 1
    · rw [decide_eq_true hc, if_pos rfl, seq_nx (asg_nx (sub_ev rfl (mod_ev (div_ev (at0_ev rfl) rfl (by omega)) rfl (by omega))))]
      have : (manyM ns : Int) = 12 - ns.getD 0 0 / 32 % 8 := by
        unfold manyM
        rw [if_pos hc]
        omega
      rw [this]
      rfl
    · rw [decide_eq_false hc, if_neg Bool.false_ne_true, next_seq]
      have : (manyM ns : Int) = 1 + ns.getD 0 0 % 4 := by
        unfold manyM
        rw [if_neg hc]
        omega
      rw [this]
  have h1' := h1
  show (match sSeq _ rest [.sh (scrD (ns.map PyData.int)), .sh (.int (1 + ns.getD 0 0 % 4)), .un, .un, .un, .un] with | some (.rtn es) => some es | _ => none) = _
  rw [h1', ← hrest]
  rw [seq_nx (e := [.sh (scrD (ns.map PyData.int)), .sh (.int (manyM ns : Int)), .own [], .un, .un, .un]) rfl]
  obtain ⟨e', h3, h4⟩ := for_inv (G := tgN 3) (F := plotsBody) (fun i e => i ≤ manyM ns ∧ ∃ a b c, e = [.sh (scrD (ns.map PyData.int)), .sh (.int (manyM ns : Int)), .own (((List.range i).map (plotM ns)).map encP), a, b, c]) (rgD 0 (manyM ns)) 0 [.sh (scrD (ns.map PyData.int)), .sh (.int (manyM ns : Int)), .own [], .un, .un, .un] ⟨Nat.zero_le _, _, _, _, rfl⟩ (fun i x e hx he => by
    rw [Nat.zero_add] at he ⊢
    obtain ⟨hi, a, b, c, rfl⟩ := he
    unfold rgD at hx
    rw [List.getElem?_map] at hx
    have hil : i < manyM ns := by
      have := (List.getElem?_eq_some_iff.mp (show (List.range (manyM ns))[i]? = some i by
        cases q : (List.range (manyM ns))[i]? with
        | none => rw [q] at hx; cases hx
        | some j =>
          obtain ⟨h1, h2⟩ := List.getElem?_eq_some_iff.mp q
          rw [List.getElem_range] at h2
          rw [h2])).1
      rw [List.length_range] at this
      exact this
    rw [List.getElem?_range hil] at hx
    cases hx
    obtain ⟨b', c', ht⟩ := plots_turn ns (.int (manyM ns : Int)) i (by omega) a b c
    refine ⟨[.sh (scrD (ns.map PyData.int)), .sh (.int (manyM ns : Int)), .own (((List.range (i + 1)).map (plotM ns)).map encP), .sh (.int (i : Int)), b', c'], .inl ?_, by omega, _, _, _, rfl⟩
    show plotsBody [.sh (scrD (ns.map PyData.int)), .sh (.int (manyM ns : Int)), .own (((List.range i).map (plotM ns)).map encP), .sh (.int (0 + (i : Int))), b, c] = _
    rw [Int.zero_add]
    exact ht)
  obtain ⟨_, a, b, c, rfl⟩ := h4
  have h5 : iR1 (aCons (eVarO 1) aNil) [.sh (scrD (ns.map PyData.int)), .sh (.int (manyM ns : Int)), .own [], .un, .un, .un] = some (rgD 0 (manyM ns)) := by
    show (if -100000 ≤ (manyM ns : Int) ∧ (manyM ns : Int) ≤ 100000 then some (rgD 0 (manyM ns : Int).toNat) else none) = _
    rw [if_pos (by omega), Int.toNat_natCast]
  have h6 : ∀ F, sFor (iR1 (aCons (eVarO 1) aNil)) (tgN 3) F [.sh (scrD (ns.map PyData.int)), .sh (.int (manyM ns : Int)), .own [], .un, .un, .un] = fGo (tgN 3) F (rgD 0 (manyM ns)) [.sh (scrD (ns.map PyData.int)), .sh (.int (manyM ns : Int)), .own [], .un, .un, .un] := fun F => by
    show (iR1 _ _).bind _ = _
    rw [h5]
    rfl
  show (match sSeq (sFor (iR1 (aCons (eVarO 1) aNil)) (tgN 3) plotsBody) (sRetO 2) [.sh (scrD (ns.map PyData.int)), .sh (.int (manyM ns : Int)), .own [], .un, .un, .un] with | some (.rtn es) => some es | _ => none) = _
  rw [seq_nx ((h6 _).trans h3)]
  have hz : 0 + (rgD 0 (manyM ns)).length = manyM ns := by
    unfold rgD
    rw [List.length_map, List.length_range]
    omega
  rw [hz]
  rfl
theorem m_names (ns : List Int) : f__law_names [scrD (ns.map PyData.int), encPs (plotsM ns)] = some ((namesM ns).map PyData.str) := by
  have hm := nmany_le (ns.getD 2 0)
  have hpl := manyM_le ns
  unfold f__law_names fnN F__law_names
  have h0 : fEnv 8 [scrD (ns.map PyData.int), encPs (plotsM ns)] = [.sh (scrD (ns.map PyData.int)), .sh (encPs (plotsM ns)), .un, .un, .un, .un, .un, .un] := rfl
  rw [h0, seq_asg (at2_ev rfl)]
  dsimp only [List.set]
  generalize hc : ns.getD 2 0 = c at *
  rw [seq_asg (add_ev (i := 1) rfl (mod_ev (i := c) rfl rfl (by omega)))]
  dsimp only [List.set]
  rw [if_seq (eqi_ev (mod_ev (div_ev (i := c) rfl rfl (by omega)) rfl (by omega)) rfl)]
  generalize hrest : sSeq (sIf (tE (e2 gEq (e2 (gIC cMod (· % ·)) (e2 (gIC cDiv (· / ·)) (eVarO 2) (eC (.int 5))) (eC (.int 4))) (eC (.int 1)))) _ _) _ = rest
  have hs : sSeq (if decide (c / 5 % 16 = 3) = true then sAsg (eC (.int 60)) (tgN 3) else sNext) rest [.sh (scrD (ns.map PyData.int)), .sh (encPs (plotsM ns)), .sh (.int c), .sh (.int (1 + c % 5)), .un, .un, .un, .un]
      = rest [.sh (scrD (ns.map PyData.int)), .sh (encPs (plotsM ns)), .sh (.int c), .sh (.int (nmanyM c : Int)), .un, .un, .un, .un] := by
    by_cases h : c / 5 % 16 = 3
    · rw [decide_eq_true h, if_pos rfl, seq_nx (asg_nx (d := .int 60) rfl)]
      have : nmanyM c = 60 := by unfold nmanyM; rw [if_pos h]; rfl
      rw [this]
      rfl
    · rw [decide_eq_false h, if_neg Bool.false_ne_true]
      have : (nmanyM c : Int) = 1 + c % 5 := by unfold nmanyM; rw [if_neg h]; omega
      rw [this]
      rfl
  rw [hs, ← hrest]
  rw [if_seq (eqi_ev (mod_ev (div_ev (i := c) rfl rfl (by omega)) rfl (by omega)) rfl)]
  unfold namesM
  rw [hc]
  by_cases h : c / 5 % 4 = 1
  · rw [decide_eq_true h, if_pos rfl, if_pos h]
    have hl : nLc (iLS (eVarO 1)) (tgT 2 (tgCons (tgN 6) (tgCons (tgN 7) tgNil))) (fun _ => some true) (eVar 6) [6, 7] [.sh (scrD (ns.map PyData.int)), .sh (encPs (plotsM ns)), .sh (.int c), .sh (.int (nmanyM c : Int)), .un, .un, .un, .un] = some ((plotsM ns).map fun q => .str q.1) := by
      have hi : iLS (eVarO 1) [.sh (scrD (ns.map PyData.int)), .sh (encPs (plotsM ns)), .sh (.int c), .sh (.int (nmanyM c : Int)), .un, .un, .un, .un] = some ((plotsM ns).map encP) := rfl
      unfold nLc
      rw [hi, Option.bind_some, if_pos (by rw [List.length_map, plots_len]; omega)]
      rw [lc_all (fun d => match d with | .tuple [a, b] => [.sh (scrD (ns.map PyData.int)), .sh (encPs (plotsM ns)), .sh (.int c), .sh (.int (nmanyM c : Int)), .un, .un, .sh a, .sh b] | _ => []) (fun d => match d with | .tuple [a, _] => a | _ => .none)]
      · rw [List.map_map]
        rfl
      · intro d m
        obtain ⟨q, _, rfl⟩ := List.mem_map.mp m
        rfl
      · intro d m
        obtain ⟨q, _, rfl⟩ := List.mem_map.mp m
        rfl
    have hsl : nSl (eL (nLc (iLS (eVarO 1)) (tgT 2 (tgCons (tgN 6) (tgCons (tgN 7) tgNil))) (fun _ => some true) (eVar 6) [6, 7])) oNone (oSome (eVarO 3)) [.sh (scrD (ns.map PyData.int)), .sh (encPs (plotsM ns)), .sh (.int c), .sh (.int (nmanyM c : Int)), .un, .un, .un, .un] = some ((((plotsM ns).map (·.1)).take (nmanyM c)).map PyData.str) := by
      unfold nSl
      rw [eL_ev hl]
      show some (PL.cutD ((plotsM ns).map fun q => PyData.str q.1) none (some (nmanyM c : Int))) = _
      rw [cutD_to, List.map_take, List.map_map]
      rfl
    have hr : ∀ R : PL.Env → Option Out, sSeq (sRetN (nSl (eL (nLc (iLS (eVarO 1)) (tgT 2 (tgCons (tgN 6) (tgCons (tgN 7) tgNil))) (fun _ => some true) (eVar 6) [6, 7])) oNone (oSome (eVarO 3)))) R [.sh (scrD (ns.map PyData.int)), .sh (encPs (plotsM ns)), .sh (.int c), .sh (.int (nmanyM c : Int)), .un, .un, .un, .un] = some (.rtn ((((plotsM ns).map (·.1)).take (nmanyM c)).map PyData.str)) := fun R => by
      unfold sSeq sRetN
      rw [hsl]
      rfl
    rw [hr]
  · rw [decide_eq_false h, if_neg Bool.false_ne_true, if_neg h, next_seq]
    rw [seq_asg (d := .str "zyxwvutsrqponmlkjihgfedcba") rfl]
    dsimp only [List.set]
    have hl : nLc (iR1 (aCons (eVarO 3) aNil)) (tgN 5) (fun _ => some true) (eA (fun ds => if ds.length = 3 then f__law_called ds else none) (aCons (e2 (gIC cDiv (· / ·)) (eVarO 2) (eC (.int 80))) (aCons (eVar 5) (aCons (e2 gAdd (e2 gIx (eC (.str "abc")) (e2 (gIC cDiv (· / ·)) (eVarO 5) (eC (.int 26)))) (e2 gIx (eVarO 4) (e2 (gIC cMod (· % ·)) (eVarO 5) (eC (.int 26))))) aNil)))) [5] [.sh (scrD (ns.map PyData.int)), .sh (encPs (plotsM ns)), .sh (.int c), .sh (.int (nmanyM c : Int)), .sh (.str "zyxwvutsrqponmlkjihgfedcba"), .un, .un, .un] = some (((List.range (nmanyM c)).map (nmM c)).map PyData.str) := by
      have hi : iR1 (aCons (eVarO 3) aNil) [.sh (scrD (ns.map PyData.int)), .sh (encPs (plotsM ns)), .sh (.int c), .sh (.int (nmanyM c : Int)), .sh (.str "zyxwvutsrqponmlkjihgfedcba"), .un, .un, .un] = some (rgD 0 (nmanyM c)) := by
        show (if -100000 ≤ (nmanyM c : Int) ∧ (nmanyM c : Int) ≤ 100000 then some (rgD 0 (nmanyM c : Int).toNat) else none) = _
        rw [if_pos (by omega)]
        rfl
      unfold nLc
      rw [hi, Option.bind_some, if_pos (by unfold rgD; rw [List.length_map, List.length_range]; omega)]
      rw [lc_all (fun d => [.sh (scrD (ns.map PyData.int)), .sh (encPs (plotsM ns)), .sh (.int c), .sh (.int (nmanyM c : Int)), .sh (.str "zyxwvutsrqponmlkjihgfedcba"), .sh d, .un, .un]) (fun d => match d with | .int i => .str (nmM c i.toNat) | _ => .none)]
      · unfold rgD
        rw [List.map_map, List.map_map]
        congr 1
        apply List.map_congr_left
        intro k _
        show PyData.str (nmM c (0 + (k : Int)).toNat) = .str (nmM c k)
        rw [Int.zero_add, Int.toNat_natCast]
      · intro d m
        rfl
      · intro d m
        unfold rgD at m
        obtain ⟨k, mk, rfl⟩ := List.mem_map.mp m
        rw [List.mem_range] at mk
        show _ = some (PyData.str (nmM c (0 + (k : Int)).toNat))
        rw [Int.zero_add, Int.toNat_natCast]
        have e1 : (k : Int) / 26 = ((k / 26 : Nat) : Int) := by omega
        have e2' : (k : Int) % 26 = ((k % 26 : Nat) : Int) := by omega
        have hb : ((⟨#[97 + k / 26]⟩ : Str) ++ (⟨#[122 - k % 26]⟩ : Str)) = ⟨#[97 + k / 26, 122 - k % 26]⟩ := rfl
        refine call3_ev (div_ev (i := c) rfl rfl (by omega)) (y := .int (k : Int)) rfl (u := .str ⟨#[97 + k / 26, 122 - k % 26]⟩) ?_ ?_
        · rw [← hb]
          refine cat_ev (strix_ev (z := "abc") rfl (div_ev (i := (k : Int)) rfl rfl (by omega)) (by decide +kernel) ?_) (strix_ev (z := "zyxwvutsrqponmlkjihgfedcba") rfl (mod_ev (i := (k : Int)) rfl rfl (by omega)) (by decide +kernel) ?_) (by show 1 + 1 ≤ 100000; omega)
          · rw [e1]
            exact abc3_at _ (by omega)
          · rw [e2']
            exact zyx_at _ (by omega)
        · exact m_called (c / 80) k ⟨#[97 + k / 26, 122 - k % 26]⟩ (by show 2 ≤ 2; omega)
    show (match sRetN _ _ with | some (.rtn es) => some es | _ => none) = _
    unfold sRetN
    rw [hl]
    rfl
theorem m_row (ps : List (Str × Option Str)) (nms : List Str) (c sz : Int) (h1 : 0 < ps.length) (h2 : 0 < nms.length) (h3 : 0 ≤ sz) : f__law_row [.int c, encPs ps, .list (nms.map PyData.str), .int sz] = some (encR (rowM ps nms c sz)) := by
  have hc : ∃ k : Nat, c % 10 = (k : Int) ∧ k < 10 := ⟨(c % 10).toNat, by omega, by omega⟩
  obtain ⟨k, hk, hk10⟩ := hc
  unfold f__law_row fnD F__law_row
  have h0 : fEnv 11 [.int c, encPs ps, .list (nms.map PyData.str), .int sz] = [.sh (.int c), .sh (encPs ps), .sh (.list (nms.map PyData.str)), .sh (.int sz), .un, .un, .un, .un, .un, .un, .un] := rfl
  rw [h0, seq_asg (mod_ev (add_ev (mul_ev (div_ev (i := c) rfl rfl (by omega)) rfl (cmul_r (by omega))) rfl) rfl (by omega))]
  dsimp only [List.set]
  rw [show (c / 10 * 48271 + 11) % 1000003 = moreM c from rfl]
  rw [seq_asg (pick_ev (l := nms) rfl rfl h2)]
  dsimp only [List.set]
  rw [seq_asg (pick_ev (l := nms) rfl (div_ev (i := moreM c) rfl rfl (by omega)) h2)]
  dsimp only [List.set]
  rw [seq_asg (pickp_ev (l := ps) rfl (div_ev (i := moreM c) rfl rfl (by omega)) h1)]
  dsimp only [List.set]
  rw [seq_asg (sub_ev (mod_ev (div_ev (i := c) rfl rfl (by omega)) rfl (by omega)) rfl)]
  dsimp only [List.set]
  rw [if_seq (eqi_ev (mod_ev (i := moreM c) rfl rfl (by omega)) rfl)]
  generalize hZ : (if moreM c % 4 = 1 then c / 10 % 2000000000000000001 - 1000000000000000000 else c / 10 % 19 - 9) = Z
  generalize hrest : sSeq (sAsg (e2 (gIC cMod (· % ·)) (e2 (gIC cDiv (· / ·)) (eVarO 4) (eC (.int 1013))) (e2 gAdd (eVarO 3) (eC (.int 1)))) (tgN 9)) _ = rest
  have hs : sSeq (if decide (moreM c % 4 = 1) = true then sAsg (e2 (gI (· - ·)) (e2 (gIC cMod (· % ·)) (e2 (gIC cDiv (· / ·)) (eVarO 0) (eC (.int 10))) (eC (.int 2000000000000000001))) (eC (.int 1000000000000000000))) (tgN 8) else sNext) rest
      [.sh (.int c), .sh (encPs ps), .sh (.list (nms.map PyData.str)), .sh (.int sz), .sh (.int (moreM c)), .sh (.str (pickS nms (moreM c))), .sh (.str (pickS nms (moreM c / 7))), .sh (.str (pickS (ps.map (·.1)) (moreM c / 61))), .sh (.int (c / 10 % 19 - 9)), .un, .un]
    = rest [.sh (.int c), .sh (encPs ps), .sh (.list (nms.map PyData.str)), .sh (.int sz), .sh (.int (moreM c)), .sh (.str (pickS nms (moreM c))), .sh (.str (pickS nms (moreM c / 7))), .sh (.str (pickS (ps.map (·.1)) (moreM c / 61))), .sh (.int Z), .un, .un] := by
    rw [← hZ]
    by_cases hc : moreM c % 4 = 1
    · rw [decide_eq_true hc, if_pos rfl, if_pos hc, seq_nx (asg_nx (sub_ev (mod_ev (div_ev (i := c) rfl rfl (by omega)) rfl (by omega)) rfl))]
      rfl
    · rw [decide_eq_false hc, if_neg Bool.false_ne_true, if_neg hc]
      rfl
  rw [hs, ← hrest]
  rw [seq_asg (mod_ev (div_ev (i := moreM c) rfl rfl (by omega)) (add_ev (i := sz) rfl rfl) (by omega))]
  dsimp only [List.set]
  rw [seq_asg (mod_ev (i := c) rfl rfl (by omega)), hk]
  dsimp only [List.set]
  have hrow : ∀ r, rowM ps nms c sz = r → encR (rowM ps nms c sz) = encR r := fun r h => by rw [h]
  have hm : (c % 10).toNat = k := by omega
  unfold rowM
  rw [hm, hZ]
  have hcs : k = 0 ∨ k = 1 ∨ k = 2 ∨ k = 3 ∨ k = 4 ∨ k = 5 ∨ k = 6 ∨ k = 7 ∨ k = 8 ∨ k = 9 := by omega
  rcases hcs with rfl | rfl | rfl | rfl | rfl | rfl | rfl | rfl | rfl | rfl <;> rfl
end K09
namespace K09
open PySem L2 PySem.Spec PyProof.Rows PL PR
/-! ### the law's own functions over its state -/
theorem lint_in {x : Int} {l : List Int} : gInL false (.int x) (.list (l.map PyData.int)) = some (.bool (decide (x ∈ l))) := by
  have h1 : SeqAt.shaped (.list (l.map PyData.int)) = true := (fit_list (n := 0) fun d m => by
    obtain ⟨y, my, rfl⟩ := List.mem_map.mp m
    exact fit_int 0 y).sh (by omega)
  show (if SeqAt.shaped (.int x) && SeqAt.shaped (.list (l.map PyData.int)) then some (PyData.bool ((l.map PyData.int).any fun z => PyData.eqv z (.int x))) else none) = _
  rw [shaped_int, h1]
  have h2 : ((l.map PyData.int).any fun z => PyData.eqv z (.int x)) = decide (x ∈ l) := by
    rw [List.any_map, Bool.eq_iff_iff]
    simp only [List.any_eq_true, decide_eq_true_eq, Function.comp, eqv_int]
    exact ⟨fun ⟨y, my, e⟩ => e ▸ my, fun m => ⟨x, m, rfl⟩⟩
  rw [h2]
  rfl
/-- what the law says that a name lacks -/
def lackM (L : LS) (x : Str) : Str := match getA L.held x with
  | none => "nothing"
  | some i => match L.worth[i]? with
    | none => "gone"
    | some z => if z.2 ∈ L.opn.map (·.2) then "" else "gone"
theorem m_lack (L : LS) (x : Str) (hh : ∀ q ∈ L.held, q.2 < L.worth.length) (hl : L.opn.length ≤ 1000) : f__law_lack [lsD L, .str x] = some (.str (lackM L x)) := by
  unfold f__law_lack fnD F__law_lack lackM
  have h0 : fEnv 5 [lsD L, .str x] = [.sh (lsD L), .sh (.str x), .un, .un, .un] := rfl
  rw [h0, if_seq (in_held (neg := true) (L := L) rfl (dg_held rfl))]
  cases hx : getA L.held x with
  | none => rfl
  | some i =>
    have hi : i < L.worth.length := by
      obtain ⟨q, hq, e⟩ := Option.map_eq_some_iff.mp hx
      have := hh q (List.mem_of_find?_eq_some hq)
      omega
    have hw : L.worth[i]? = some L.worth[i] := List.getElem?_eq_getElem hi
    show outD (sSeq sNext _ _) = _
    rw [next_seq]
    have hix : e2 gIx (e2 gIx (e2 gDg (eVar 0) (eC (.str "worth"))) (e2 gDg (e2 gDg (eVar 0) (eC (.str "held"))) (eVarO 1))) (eC (.int 1)) [.sh (lsD L), .sh (.str x), .un, .un, .un] = some (.int L.worth[i].2) := by
      refine ix_ev (ds := [.int L.worth[i].1, .int L.worth[i].2]) (ix_ev (ds := L.worth.map encN) (i := (i : Int)) (dg_worth rfl) (at_held (L := L) (dg_held rfl) rfl hx) (atI_nat' ?_)) rfl rfl
      rw [List.getElem?_map, hw]
      rfl
    rw [seq_asg hix]
    dsimp only [List.set]
    have hc : eL (nLc (iLS (e2 gDg (eVar 0) (eC (.str "open")))) (tgT 2 (tgCons (tgN 3) (tgCons (tgN 4) tgNil))) (fun _ => some true) (eVar 4) [3, 4]) [.sh (lsD L), .sh (.str x), .sh (.int L.worth[i].2), .un, .un] = some (.list ((L.opn.map (·.2)).map PyData.int)) := by
      have hi : iLS (e2 gDg (eVar 0) (eC (.str "open"))) [.sh (lsD L), .sh (.str x), .sh (.int L.worth[i].2), .un, .un] = some (L.opn.map encQ) := by
        unfold iLS
        rw [dg_open rfl]
        rfl
      unfold eL nLc
      rw [hi, Option.bind_some, if_pos (by rw [List.length_map]; omega)]
      rw [lc_all (fun d => match d with | .tuple [a, b] => [.sh (lsD L), .sh (.str x), .sh (.int L.worth[i].2), .sh a, .sh b] | _ => []) (fun d => match d with | .tuple [a, b] => b | _ => .none)]
      · rw [List.map_map, List.map_map]
        rfl
      · intro d m
        obtain ⟨q, _, rfl⟩ := List.mem_map.mp m
        rfl
      · intro d m
        obtain ⟨q, _, rfl⟩ := List.mem_map.mp m
        rfl
    have ht : tE (e2 (gInL false) (eVarO 2) (eL (nLc (iLS (e2 gDg (eVar 0) (eC (.str "open")))) (tgT 2 (tgCons (tgN 3) (tgCons (tgN 4) tgNil))) (fun _ => some true) (eVar 4) [3, 4]))) [.sh (lsD L), .sh (.str x), .sh (.int L.worth[i].2), .un, .un] = some (decide (L.worth[i].2 ∈ L.opn.map (·.2))) := te2_ev rfl hc lint_in
    rw [if_seq ht, hw]
    show _ = some (PyData.str (if L.worth[i].2 ∈ L.opn.map (·.2) then ("" : Str) else "gone"))
    by_cases hm : L.worth[i].2 ∈ L.opn.map (·.2)
    · rw [decide_eq_true hm, if_pos hm]
      rfl
    · rw [decide_eq_false hm, if_neg hm]
      rfl
def keysM (L : LS) : List Str := L.opn.map (·.1)
def upM (L : LS) (x : Str) : Str := if x ∈ keysM L then "" else "not open"
def openM (ps : List (Str × Option Str)) (L : LS) (x : Str) : Str := if x ∈ keysM L then "open already" else match outM ps x with
  | _ :: c :: _ => upM L c
  | _ => ""
/-- what the law says that goes wrong -/
def wrongM (ps : List (Str × Option Str)) (L : LS) : PL.Row → Str
  | .open_ x => openM ps L x
  | .lay _ p _ => upM L p
  | .copy _ o p => SM.orW (lackM L o) (upM L p)
  | .same _ o => if (getA L.held o).isSome then "" else "nothing"
  | .add n o => SM.orW (lackM L n) (lackM L o)
  | .tell n => lackM L n
  | .give p => upM L p
  | .end_ => if L.opn = [] then "" else "left"
  | _ => ""
def askedD : PyData := .dict (kvP ["copy", "add", "tell"] [.tuple [.int 2], .tuple [.int 1, .int 2], .tuple [.int 1]])
def homeD : PyData := .dict (kvP ["lay", "copy", "give"] [.int 2, .int 3, .int 1])
abbrev EW (ps : List (Str × Option Str)) (L : LS) (r : PL.Row) (k5 k6 k8 : Sl) : PL.Env := [.sh (encPs ps), .sh (lsD L), .sh (.tuple (rowD r)), .sh (.str (wordR r)), .sh (.list ((keysM L).map PyData.str)), k5, k6, .un, k8, .un, .un]
theorem lack_ok (L : LS) (x : Str) : PyData.strOk (lackM L x) = true := by
  unfold lackM
  split
  · decide +kernel
  · split
    · decide +kernel
    · split <;> decide +kernel
theorem fgo_rt {G : PyData → PL.Env → Option PL.Env} {F : PL.Env → Option Out} {x : PyData} {xs : List PyData} {env e1 : PL.Env} {d : PyData} (h1 : G x env = some e1) (h2 : F e1 = some (.rt d)) : fGo G F (x :: xs) env = some (.rt d) := by
  show (G x env).bind _ = _
  rw [h1, Option.bind_some, h2]
  rfl
section
variable {ps : List (Str × Option Str)} {L : LS} {r : PL.Row}
/-- one name asked -/
theorem ask_step (k : Nat) (x : Str) (hx : (rowD r)[k]? = some (.str x)) (hh : ∀ q ∈ L.held, q.2 < L.worth.length) (hl : L.opn.length ≤ 1000) (k5 k6 : Sl) :
    sIf (tE (e2 gNe (eA (fun ds => if ds.length = 2 then f__law_lack ds else none) (aCons (eVar 1) (aCons (e2 gIx (eVarO 2) (eVarO 8)) aNil))) (eC (.str "")))) (sRet (eA (fun ds => if ds.length = 2 then f__law_lack ds else none) (aCons (eVar 1) (aCons (e2 gIx (eVarO 2) (eVarO 8)) aNil)))) sNext (EW ps L r k5 k6 (.sh (.int (k : Int))))
      = if lackM L x = "" then some (.nx (EW ps L r k5 k6 (.sh (.int (k : Int))))) else some (.rt (.str (lackM L x))) := by
  have hc : eA (fun ds => if ds.length = 2 then f__law_lack ds else none) (aCons (eVar 1) (aCons (e2 gIx (eVarO 2) (eVarO 8)) aNil)) (EW ps L r k5 k6 (.sh (.int (k : Int)))) = some (.str (lackM L x)) :=
    call2_ev (x := lsD L) (y := .str x) rfl (ixt_ev (ds := rowD r) (i := (k : Int)) rfl rfl (atI_nat' hx)) (m_lack L x hh hl)
  rw [if_val (nez_ev hc rfl (lack_ok L x) (by decide +kernel))]
  by_cases e : lackM L x = ""
  · rw [decide_eq_true e, if_pos e]
    rfl
  · rw [decide_eq_false e, if_neg e]
    show (eA _ _ _).map Out.rt = _
    rw [hc]
    rfl
end
theorem look3 (k1 k2 k3 : Str) (d1 d2 d3 : PyData) (x : Str) : lookP (kvP [k1, k2, k3] [d1, d2, d3]) x = if k1 = x then some d1 else if k2 = x then some d2 else if k3 = x then some d3 else none := rfl
theorem din3 {k1 k2 k3 : Str} {d1 d2 d3 : PyData} {x : Str} {b : Bool} (h : (decide (k1 = x) || decide (k2 = x) || decide (k3 = x)) = b) : gDin false (.str x) (.dict (kvP [k1, k2, k3] [d1, d2, d3])) = some (.bool b) := by
  show (if true then some (PyData.bool (lookP (kvP [k1, k2, k3] [d1, d2, d3]) x).isSome) else none) = _
  rw [if_pos rfl, look3, ← h]
  by_cases h1 : k1 = x
  · rw [if_pos h1, decide_eq_true h1]
    rfl
  · rw [if_neg h1, decide_eq_false h1]
    by_cases h2 : k2 = x
    · rw [if_pos h2, decide_eq_true h2]
      rfl
    · rw [if_neg h2, decide_eq_false h2]
      by_cases h3 : k3 = x
      · rw [if_pos h3, decide_eq_true h3]
        rfl
      · rw [if_neg h3, decide_eq_false h3]
        rfl
def wAsk : PL.Env → Option Out := (sIf (tE (e2 (gDin false) (eVarO 3) (eVar 5))) (sFor (iT (e2 gDg (eVar 5) (eVarO 3))) (tgN 8) (sIf (tE (e2 gNe (eA (fun ds => if ds.length = 2 then f__law_lack ds else none) (aCons (eVar 1) (aCons (e2 gIx (eVarO 2) (eVarO 8)) aNil))) (eC (.str "")))) (sRet (eA (fun ds => if ds.length = 2 then f__law_lack ds else none) (aCons (eVar 1) (aCons (e2 gIx (eVarO 2) (eVarO 8)) aNil)))) sNext)) sNext)
def wHome : PL.Env → Option Out := (sIf (tA (tE (e2 (gDin false) (eVarO 3) (eVar 6))) (tE (e2 (gInL true) (e2 gIx (eVarO 2) (e2 gDg (eVar 6) (eVarO 3))) (eVarO 4)))) (sRet (eC (.str "not open"))) sNext)
def wEnd : PL.Env → Option Out := (sIf (tA (tE (e2 gEq (eVarO 3) (eC (.str "end")))) (tE (e2 gNe (eVarO 4) (eL (nLst aNil))))) (sRet (eC (.str "left"))) sNext)
def wLast : PL.Env → Option Out := sSeq (sAsg (eDict ["lay", "copy", "give"] (aCons (eC (.int 2)) (aCons (eC (.int 3)) (aCons (eC (.int 1)) aNil)))) (tgN 6)) (sSeq wHome (sSeq wEnd (sRet (eC (.str "")))))
def wRest : PL.Env → Option Out := sSeq (sIf (tA (tE (e2 gEq (eVarO 3) (eC (.str "same")))) (tE (e2 (gDin true) (e2 gIx (eVarO 2) (eC (.int 2))) (e2 gDg (eVar 1) (eC (.str "held")))))) (sRet (eC (.str "nothing"))) sNext) (sSeq (sAsg (eDict ["copy", "add", "tell"] (aCons (eTup (aCons (eC (.int 2)) aNil)) (aCons (eTup (aCons (eC (.int 1)) (aCons (eC (.int 2)) aNil))) (aCons (eTup (aCons (eC (.int 1)) aNil)) aNil)))) (tgN 5)) (sSeq wAsk wLast))
section
variable {ps : List (Str × Option Str)} {L : LS} {r : PL.Row}
theorem eqW (z : Str) (hz : PyData.strOk z = true) {b : Bool} (hb : decide (wordR r = z) = b) (k5 k6 k8 : Sl) : tE (e2 gEq (eVarO 3) (eC (.str z))) (EW ps L r k5 k6 k8) = some b := by
  rw [← hb]
  exact eqz_ev rfl rfl (wordR_ok r) hz
/-- the asked names done: the plot, the end -/
theorem last_ev (hk : ∀ y ∈ keysM L, PyData.strOk y = true) (hl : L.opn.length ≤ 1000) (k5 k6 k8 : Sl) (home : Option (Nat × Str)) (hh : match home with
    | none => (decide (("lay" : Str) = wordR r) || decide (("copy" : Str) = wordR r) || decide (("give" : Str) = wordR r)) = false
    | some (n, x) => (decide (("lay" : Str) = wordR r) || decide (("copy" : Str) = wordR r) || decide (("give" : Str) = wordR r)) = true ∧ lookP (kvP ["lay", "copy", "give"] [.int 2, .int 3, .int 1]) (wordR r) = some (.int (n : Int)) ∧ (rowD r)[n]? = some (.str x) ∧ PyData.strOk x = true) (e : Bool) (he : decide (wordR r = "end") = e) :
    outD (wLast (EW ps L r k5 k6 k8)) = some (.str (SM.orW (match home with | none => "" | some (_, x) => upM L x) (if e = true ∧ L.opn ≠ [] then "left" else ""))) := by
  unfold wLast
  rw [seq_asg (d := homeD) rfl]
  dsimp only [List.set]
  have hend : ∀ k6' : Sl, outD (sSeq wEnd (sRet (eC (.str ""))) (EW ps L r k5 k6' k8)) = some (.str (if e = true ∧ L.opn ≠ [] then "left" else "")) := fun k6' => by
    unfold wEnd
    have hne : tE (e2 gNe (eVarO 4) (eL (nLst aNil))) (EW ps L r k5 k6' k8) = some (decide (L.opn ≠ [])) := by
      refine te2_ev rfl rfl ?_
      show (if SeqAt.shaped (.list ((keysM L).map PyData.str)) && SeqAt.shaped (.list []) then some (PyData.bool (!PyData.eqv (.list ((keysM L).map PyData.str)) (.list []))) else none) = _
      rw [(fit_list (n := 0) (ds := (keysM L).map PyData.str) fun d m => by
        obtain ⟨y, my, rfl⟩ := List.mem_map.mp m
        exact fit_str 0 (hk y my)).sh (by omega)]
      unfold keysM
      cases L.opn <;> rfl
    rw [ret_seq (tA_ev (eqW "end" (by decide +kernel) he k5 k6' k8) (fun _ => hne))]
    by_cases h : e = true ∧ L.opn ≠ []
    · rw [if_pos h, h.1, decide_eq_true h.2]
      rfl
    · rw [if_neg h, if_neg (fun z => h ⟨by
        cases e
        · cases z
        · rfl, by
        cases e
        · cases z
        · exact of_decide_eq_true z⟩)]
      rfl
  cases home with
  | none =>
    unfold wHome
    have ht : tE (e2 (gDin false) (eVarO 3) (eVar 6)) (EW ps L r k5 (.sh homeD) k8) = some false := te2_ev rfl rfl (din3 hh)
    rw [ret_seq (tA_ev (y := false) ht (fun z => by cases z))]
    exact hend _
  | some q =>
    obtain ⟨n, x⟩ := q
    obtain ⟨h1, h2, h3, h4⟩ := hh
    unfold wHome
    have ht : tE (e2 (gDin false) (eVarO 3) (eVar 6)) (EW ps L r k5 (.sh homeD) k8) = some true := te2_ev rfl rfl (din3 h1)
    have hg : e2 gDg (eVar 6) (eVarO 3) (EW ps L r k5 (.sh homeD) k8) = some (.int (n : Int)) := h2
    have hx : e2 gIx (eVarO 2) (e2 gDg (eVar 6) (eVarO 3)) (EW ps L r k5 (.sh homeD) k8) = some (.str x) := ixt_ev (ds := rowD r) rfl hg (atI_nat' h3)
    rw [ret_seq (tA_ev ht (fun _ => ins_ev (l := keysM L) hx rfl h4 hk))]
    show _ = some (PyData.str (SM.orW (upM L x) _))
    unfold upM
    by_cases hm : x ∈ keysM L
    · rw [if_pos hm, decide_eq_true hm]
      show outD (sSeq wEnd _ (EW ps L r k5 (.sh homeD) k8)) = _
      rw [hend]
      rfl
    · rw [if_neg hm, decide_eq_false hm]
      show some (PyData.str "not open") = some (PyData.str (SM.orW "not open" _))
      unfold SM.orW
      rw [if_neg (by decide +kernel)]
end
def firstLack (L : LS) : List (Nat × Str) → Str
  | [] => ""
  | q :: l => SM.orW (lackM L q.2) (firstLack L l)
section
variable {ps : List (Str × Option Str)} {L : LS} {r : PL.Row}
theorem ask_go (hh : ∀ q ∈ L.held, q.2 < L.worth.length) (hl : L.opn.length ≤ 1000) (k5 k6 : Sl) : ∀ (asks : List (Nat × Str)) (k8 : Sl), (∀ q ∈ asks, (rowD r)[q.1]? = some (.str q.2)) →
    ∃ k8', fGo (tgN 8) (sIf (tE (e2 gNe (eA (fun ds => if ds.length = 2 then f__law_lack ds else none) (aCons (eVar 1) (aCons (e2 gIx (eVarO 2) (eVarO 8)) aNil))) (eC (.str "")))) (sRet (eA (fun ds => if ds.length = 2 then f__law_lack ds else none) (aCons (eVar 1) (aCons (e2 gIx (eVarO 2) (eVarO 8)) aNil)))) sNext) (asks.map fun q => PyData.int (q.1 : Int)) (EW ps L r k5 k6 k8) = if firstLack L asks = "" then some (.nx (EW ps L r k5 k6 k8')) else some (.rt (.str (firstLack L asks)))
  | [], k8, _ => ⟨k8, rfl⟩
  | q :: asks, k8, h => by
    have h1 := ask_step (ps := ps) (L := L) (r := r) q.1 q.2 (h q (List.mem_cons_self ..)) hh hl k5 k6
    by_cases e : lackM L q.2 = ""
    · rw [if_pos e] at h1
      obtain ⟨k8', h2⟩ := ask_go hh hl k5 k6 asks (.sh (.int (q.1 : Int))) (fun q m => h q (List.mem_cons_of_mem _ m))
      refine ⟨k8', ?_⟩
      rw [List.map_cons, fgo_nx (e1 := EW ps L r k5 k6 (.sh (.int (q.1 : Int)))) rfl h1, h2]
      have : firstLack L (q :: asks) = firstLack L asks := by
        show SM.orW (lackM L q.2) (firstLack L asks) = _
        unfold SM.orW
        rw [if_pos e]
      rw [this]
    · rw [if_neg e] at h1
      refine ⟨k8, ?_⟩
      have : firstLack L (q :: asks) = lackM L q.2 := by
        show SM.orW (lackM L q.2) (firstLack L asks) = _
        unfold SM.orW
        rw [if_neg e]
      rw [List.map_cons, fgo_rt (e1 := EW ps L r k5 k6 (.sh (.int (q.1 : Int)))) rfl h1, this, if_neg e]
theorem rest_ev (hk : ∀ y ∈ keysM L, PyData.strOk y = true) (hh : ∀ q ∈ L.held, q.2 < L.worth.length) (hl : L.opn.length ≤ 1000) (k6 k8 : Sl) (s : Bool) (hs : decide (wordR r = "same") = s) (o : Str) (ho : s = true → (rowD r)[2]? = some (.str o)) (asks : List (Nat × Str))
    (ha : (decide (("copy" : Str) = wordR r) || decide (("add" : Str) = wordR r) || decide (("tell" : Str) = wordR r)) = !asks.isEmpty) (ha2 : asks ≠ [] → lookP (kvP ["copy", "add", "tell"] [.tuple [.int 2], .tuple [.int 1, .int 2], .tuple [.int 1]]) (wordR r) = some (.tuple (asks.map fun q => PyData.int (q.1 : Int)))) (ha3 : ∀ q ∈ asks, (rowD r)[q.1]? = some (.str q.2))
    (home : Option (Nat × Str)) (hm : match home with
    | none => (decide (("lay" : Str) = wordR r) || decide (("copy" : Str) = wordR r) || decide (("give" : Str) = wordR r)) = false
    | some (n, x) => (decide (("lay" : Str) = wordR r) || decide (("copy" : Str) = wordR r) || decide (("give" : Str) = wordR r)) = true ∧ lookP (kvP ["lay", "copy", "give"] [.int 2, .int 3, .int 1]) (wordR r) = some (.int (n : Int)) ∧ (rowD r)[n]? = some (.str x) ∧ PyData.strOk x = true) (e : Bool) (he : decide (wordR r = "end") = e) :
    outD (wRest (EW ps L r .un k6 k8)) = some (.str (if s = true ∧ getA L.held o = none then "nothing" else SM.orW (firstLack L asks) (SM.orW (match home with | none => "" | some (_, x) => upM L x) (if e = true ∧ L.opn ≠ [] then "left" else "")))) := by
  unfold wRest
  have ht : tA (tE (e2 gEq (eVarO 3) (eC (.str "same")))) (tE (e2 (gDin true) (e2 gIx (eVarO 2) (eC (.int 2))) (e2 gDg (eVar 1) (eC (.str "held"))))) (EW ps L r .un k6 k8) = some (s && !(getA L.held o).isSome) :=
    tA_ev (eqW "same" (by decide +kernel) hs _ _ _) (fun z => in_held (neg := true) (L := L) (ixt_ev (ds := rowD r) (i := ((2 : Nat) : Int)) rfl rfl (atI_nat' (ho z))) (dg_held rfl))
  rw [ret_seq ht]
  by_cases hn : s = true ∧ getA L.held o = none
  · rw [if_pos hn, hn.1, hn.2]
    rfl
  · have : (s && !(getA L.held o).isSome) = false := by
      cases hs2 : s with
      | false => rfl
      | true =>
        cases hg : getA L.held o with
        | some _ => rfl
        | none => exact absurd ⟨hs2, hg⟩ hn
    rw [if_neg hn, this, if_neg Bool.false_ne_true]
    rw [seq_asg (d := askedD) rfl]
    dsimp only [List.set]
    show outD (sSeq wAsk wLast (EW ps L r (.sh askedD) k6 k8)) = _
    have htA : tE (e2 (gDin false) (eVarO 3) (eVar 5)) (EW ps L r (.sh askedD) k6 k8) = some (!asks.isEmpty) := te2_ev rfl rfl (din3 ha)
    cases asks with
    | nil =>
      rw [seq_nx (show wAsk (EW ps L r (.sh askedD) k6 k8) = some (.nx (EW ps L r (.sh askedD) k6 k8)) from (if_no htA).trans rfl)]
      rw [last_ev hk hl _ _ _ home hm e he]
      rfl
    | cons q asks =>
      obtain ⟨k8', hg⟩ := ask_go (ps := ps) (L := L) (r := r) hh hl (.sh askedD) k6 (q :: asks) k8 ha3
      have hdg : e2 gDg (eVar 5) (eVarO 3) (EW ps L r (.sh askedD) k6 k8) = some (.tuple ((q :: asks).map fun q => PyData.int (q.1 : Int))) := ha2 (fun z => nomatch z)
      have hw : wAsk (EW ps L r (.sh askedD) k6 k8) = if firstLack L (q :: asks) = "" then some (.nx (EW ps L r (.sh askedD) k6 k8')) else some (.rt (.str (firstLack L (q :: asks)))) := by
        refine (if_yes htA).trans ?_
        show ((e2 gDg (eVar 5) (eVarO 3) (EW ps L r (.sh askedD) k6 k8)).bind asT).bind _ = _
        rw [hdg]
        exact hg
      by_cases hf : firstLack L (q :: asks) = ""
      · rw [if_pos hf] at hw
        rw [seq_nx hw, last_ev hk hl _ _ _ home hm e he]
        exact congrArg (fun z => some (PyData.str z)) (if_pos hf).symm
      · rw [if_neg hf] at hw
        rw [seq_rt hw]
        unfold SM.orW
        rw [if_neg hf]
        rfl
end
theorem out_mem : ∀ (l : List (Str × Option Str)) (w : Option Str) (y : Str), y ∈ outGo l w → y ∈ l.map (·.1)
  | [], _, _, m => by cases m
  | q :: l, w, y, m => by
    have m' : y ∈ (if w = some q.1 then q.1 :: outGo l q.2 else outGo l w) := m
    by_cases e : w = some q.1
    · rw [if_pos e] at m'
      rcases List.mem_cons.mp m' with z | z
      · rw [z]
        exact List.mem_cons_self ..
      · exact List.mem_cons_of_mem _ (out_mem l _ y z)
    · rw [if_neg e] at m'
      exact List.mem_cons_of_mem _ (out_mem l _ y m')
theorem out_ok {ps : List (Str × Option Str)} (h : ps.all okP = true) (x : Str) : ∀ y ∈ outM ps x, PyData.strOk y = true := fun y m => by
  have := out_mem ps.reverse (some x) y m
  rw [List.map_reverse, List.mem_reverse] at this
  obtain ⟨q, mq, rfl⟩ := List.mem_map.mp this
  have h1 := List.all_eq_true.mp h q mq
  unfold okP at h1
  rw [Bool.and_eq_true] at h1
  exact h1.1
theorem orW_r (a : Str) : SM.orW a "" = a := by
  unfold SM.orW
  split
  · rename_i h
    exact h.symm
  · rfl
def wOpen : PL.Env → Option Out := (sSeq (sIf (tE (e2 (gInL false) (e2 gIx (eVarO 2) (eC (.int 1))) (eVarO 4))) (sRet (eC (.str "open already"))) sNext)
    (sSeq (sAsg (eL (fun env => ((aCons (eVar 0) (aCons (e2 gIx (eVarO 2) (eC (.int 1))) aNil)) env).bind fun ds => if ds.length = 2 then f__law_outward ds else none)) (tgN 7))
    (sSeq (sIf (tA (tE (e2 (gB fun i j => decide (j < i)) (eA gLen (aCons (eVarO 7) aNil)) (eC (.int 1)))) (tE (e2 (gInL true) (e2 gIx (eVarO 7) (eC (.int 1))) (eVarO 4)))) (sRet (eC (.str "not open"))) sNext)
    (sRet (eC (.str ""))))))
section
variable {ps : List (Str × Option Str)} {L : LS}
theorem open_ev (hp : ps.all okP = true) (hpl : ps.length ≤ 1000) (hk : ∀ y ∈ keysM L, PyData.strOk y = true) (x : Str) (hx : PyData.strOk x = true) : wOpen (EW ps L (.open_ x) .un .un .un) = some (.rt (.str (openM ps L x))) := by
  unfold wOpen openM
  have h1 : tE (e2 (gInL false) (e2 gIx (eVarO 2) (eC (.int 1))) (eVarO 4)) (EW ps L (.open_ x) .un .un .un) = some (decide (x ∈ keysM L)) := ins_ev (neg := false) (l := keysM L) (ixt_ev (ds := [.str "open", .str x]) (i := ((1 : Nat) : Int)) rfl rfl rfl) rfl hx hk
  rw [ret_seq h1]
  by_cases hm : x ∈ keysM L
  · rw [decide_eq_true hm, if_pos rfl, if_pos hm]
  · rw [decide_eq_false hm, if_neg Bool.false_ne_true, if_neg hm]
    have hc := callN2_ev (env := EW ps L (.open_ x) .un .un .un) (a := eVar 0) (b := e2 gIx (eVarO 2) (eC (.int 1))) (x := encPs ps) (y := .str x) rfl (ixt_ev (ds := [.str "open", .str x]) (i := ((1 : Nat) : Int)) rfl rfl rfl) (m_loutward ps hp hpl x hx)
    rw [seq_asg hc]
    dsimp only [List.set]
    have hok := out_ok hp x
    generalize outM ps x = ch at hok hc
    have hlen : eA gLen (aCons (eVarO 7) aNil) [.sh (encPs ps), .sh (lsD L), .sh (.tuple (rowD (.open_ x))), .sh (.str (wordR (.open_ x))), .sh (.list ((keysM L).map PyData.str)), .un, .un, .sh (.list (ch.map PyData.str)), .un, .un, .un] = some (.int (ch.length : Int)) := by
      show some (PyData.int ((ch.map PyData.str).length : Int)) = _
      rw [List.length_map]
    match ch, hok, hlen with
    | [], _, hlen =>
      rw [ret_seq (b := false) (tA_ev (x := false) (y := false) ((gt_ev hlen rfl).trans rfl) (fun z => by cases z))]
      rfl
    | [a], _, hlen =>
      rw [ret_seq (b := false) (tA_ev (x := false) (y := false) ((gt_ev hlen rfl).trans rfl) (fun z => by cases z))]
      rfl
    | a :: b :: r, hok, hlen =>
      have hg : decide ((1 : Int) < ((a :: b :: r).length : Int)) = true := decide_eq_true (by rw [List.length_cons, List.length_cons]; omega)
      have hb : PyData.strOk b = true := hok b (by simp)
      have hin := ins_ev (neg := true) (l := keysM L) (env := [.sh (encPs ps), .sh (lsD L), .sh (.tuple (rowD (.open_ x))), .sh (.str (wordR (.open_ x))), .sh (.list ((keysM L).map PyData.str)), .un, .un, .sh (.list ((a :: b :: r).map PyData.str)), .un, .un, .un]) (a := e2 gIx (eVarO 7) (eC (.int 1))) (b := eVarO 4) (x := b) (ix_ev (ds := (a :: b :: r).map PyData.str) (i := ((1 : Nat) : Int)) rfl rfl (atI_nat' rfl)) rfl hb hk
      rw [ret_seq (tA_ev ((gt_ev hlen rfl).trans (congrArg some hg)) (fun _ => hin))]
      show _ = some (Out.rt (.str (upM L b)))
      unfold upM
      by_cases hm2 : b ∈ keysM L
      · rw [if_pos hm2, decide_eq_true hm2]
        rfl
      · rw [if_neg hm2, decide_eq_false hm2]
        rfl
/-- the law's word -/
theorem m_wrong (hp : ps.all okP = true) (hpl : ps.length ≤ 1000) (hk : ∀ y ∈ keysM L, PyData.strOk y = true) (hh : ∀ q ∈ L.held, q.2 < L.worth.length) (hl : L.opn.length ≤ 1000) (r : PL.Row) (hr : ∀ x ∈ textsR r, PyData.strOk x = true) :
    f__law_wrong [encPs ps, lsD L, encR r] = some (.str (wrongM ps L r)) := by
  unfold f__law_wrong fnD F__law_wrong
  rw [encR_rowD]
  have h0 : fEnv 11 [encPs ps, lsD L, .tuple (rowD r)] = [.sh (encPs ps), .sh (lsD L), .sh (.tuple (rowD r)), .un, .un, .un, .un, .un, .un, .un, .un] := rfl
  have hw : (rowD r)[0]? = some (.str (wordR r)) := by cases r <;> rfl
  rw [h0, seq_asg (ixt_ev (ds := rowD r) (i := ((0 : Nat) : Int)) rfl rfl (atI_nat' hw))]
  dsimp only [List.set]
  have hc : nLc (iLS (e2 gDg (eVar 1) (eC (.str "open")))) (tgT 2 (tgCons (tgN 9) (tgCons (tgN 10) tgNil))) (fun _ => some true) (eVar 9) [9, 10] [.sh (encPs ps), .sh (lsD L), .sh (.tuple (rowD r)), .sh (.str (wordR r)), .un, .un, .un, .un, .un, .un, .un] = some ((keysM L).map PyData.str) := by
    have hi : iLS (e2 gDg (eVar 1) (eC (.str "open"))) [.sh (encPs ps), .sh (lsD L), .sh (.tuple (rowD r)), .sh (.str (wordR r)), .un, .un, .un, .un, .un, .un, .un] = some (L.opn.map encQ) := by
      unfold iLS
      rw [dg_open rfl]
      rfl
    unfold nLc
    rw [hi, Option.bind_some, if_pos (by rw [List.length_map]; omega)]
    rw [lc_all (fun d => match d with | .tuple [a, b] => [.sh (encPs ps), .sh (lsD L), .sh (.tuple (rowD r)), .sh (.str (wordR r)), .un, .un, .un, .un, .un, .sh a, .sh b] | _ => []) (fun d => match d with | .tuple [a, b] => a | _ => .none)]
    · unfold keysM
      rw [List.map_map, List.map_map]
      rfl
    · intro d m
      obtain ⟨q, _, rfl⟩ := List.mem_map.mp m
      rfl
    · intro d m
      obtain ⟨q, _, rfl⟩ := List.mem_map.mp m
      rfl
  have own_nx : sOwn (nLc (iLS (e2 gDg (eVar 1) (eC (.str "open")))) (tgT 2 (tgCons (tgN 9) (tgCons (tgN 10) tgNil))) (fun _ => some true) (eVar 9) [9, 10]) 4 [.sh (encPs ps), .sh (lsD L), .sh (.tuple (rowD r)), .sh (.str (wordR r)), .un, .un, .un, .un, .un, .un, .un] = some (.nx [.sh (encPs ps), .sh (lsD L), .sh (.tuple (rowD r)), .sh (.str (wordR r)), .own ((keysM L).map PyData.str), .un, .un, .un, .un, .un, .un]) := by
    unfold sOwn
    rw [hc]
    rfl
  rw [seq_nx own_nx]
  show outD (sSeq (sIf (tE (e2 gEq (eVarO 3) (eC (.str "open")))) wOpen sNext) wRest (EW ps L r .un .un .un)) = _
  have e3 : ∀ k1 k2 k3 : Str, decide (k1 = wordR r) = false → decide (k2 = wordR r) = false → decide (k3 = wordR r) = false → (decide (k1 = wordR r) || decide (k2 = wordR r) || decide (k3 = wordR r)) = false := fun k1 k2 k3 a b c => by rw [a, b, c]; rfl
  cases r with
  | open_ x =>
    rw [if_seq (eqW (r := .open_ x) "open" (by decide +kernel) (b := true) rfl .un .un .un), if_pos rfl, seq_rt (open_ev hp hpl hk x (hr x (by simp [textsR])))]
    rfl
  | lay n p z =>
    rw [if_seq (eqW (r := (.lay n p z)) "open" (by decide +kernel) (b := false) (show decide ((Str.ofString "lay") = (Str.ofString "open")) = false from by decide +kernel) .un .un .un), if_neg Bool.false_ne_true, next_seq]
    refine (rest_ev (r := (.lay n p z)) hk hh hl .un .un false (show decide ((Str.ofString "lay") = (Str.ofString "same")) = false from by decide +kernel) n (fun z => by cases z) [] (show (decide ((Str.ofString "copy") = (Str.ofString "lay")) || decide ((Str.ofString "add") = (Str.ofString "lay")) || decide ((Str.ofString "tell") = (Str.ofString "lay"))) = false from by decide +kernel) (fun z => absurd rfl z) (fun q m => by cases m) (some (2, p)) ⟨(show (decide ((Str.ofString "lay") = (Str.ofString "lay")) || decide ((Str.ofString "copy") = (Str.ofString "lay")) || decide ((Str.ofString "give") = (Str.ofString "lay"))) = true from by decide +kernel), (look3 ..).trans (if_pos rfl), rfl, hr p (by simp [textsR])⟩ false (show decide ((Str.ofString "lay") = (Str.ofString "end")) = false from by decide +kernel)).trans ?_
    congr 2 <;> (simp only [wrongM, firstLack, SM.orW, upM]; try (split <;> simp_all))
  | copy n o p =>
    rw [if_seq (eqW (r := (.copy n o p)) "open" (by decide +kernel) (b := false) (show decide ((Str.ofString "copy") = (Str.ofString "open")) = false from by decide +kernel) .un .un .un), if_neg Bool.false_ne_true, next_seq]
    refine (rest_ev (r := (.copy n o p)) hk hh hl .un .un false (show decide ((Str.ofString "copy") = (Str.ofString "same")) = false from by decide +kernel) o (fun z => by cases z) [(2, o)] (show (decide ((Str.ofString "copy") = (Str.ofString "copy")) || decide ((Str.ofString "add") = (Str.ofString "copy")) || decide ((Str.ofString "tell") = (Str.ofString "copy"))) = true from by decide +kernel) (fun _ => (look3 ..).trans (if_pos rfl)) (fun q m => by
      simp only [List.mem_cons, List.not_mem_nil, or_false] at m
      subst m
      rfl) (some (3, p)) ⟨(show (decide ((Str.ofString "lay") = (Str.ofString "copy")) || decide ((Str.ofString "copy") = (Str.ofString "copy")) || decide ((Str.ofString "give") = (Str.ofString "copy"))) = true from by decide +kernel), (look3 ..).trans ((if_neg (show ¬ (Str.ofString "lay") = (Str.ofString "copy") from by decide +kernel)).trans (if_pos rfl)), rfl, hr p (by simp [textsR])⟩ false (show decide ((Str.ofString "copy") = (Str.ofString "end")) = false from by decide +kernel)).trans ?_
    refine congrArg (fun z => some (PyData.str z)) ((if_neg (fun z => by cases z.1)).trans ?_)
    rw [if_neg (show ¬ (false = true ∧ L.opn ≠ []) from fun z => by cases z.1)]
    simp only [firstLack, orW_r]
    rfl
  | same n o =>
    rw [if_seq (eqW (r := (.same n o)) "open" (by decide +kernel) (b := false) (show decide ((Str.ofString "same") = (Str.ofString "open")) = false from by decide +kernel) .un .un .un), if_neg Bool.false_ne_true, next_seq]
    refine (rest_ev (r := (.same n o)) hk hh hl .un .un true (show decide ((Str.ofString "same") = (Str.ofString "same")) = true from by decide +kernel) o (fun _ => rfl) [] (show (decide ((Str.ofString "copy") = (Str.ofString "same")) || decide ((Str.ofString "add") = (Str.ofString "same")) || decide ((Str.ofString "tell") = (Str.ofString "same"))) = false from by decide +kernel) (fun z => absurd rfl z) (fun q m => by cases m) none (show (decide ((Str.ofString "lay") = (Str.ofString "same")) || decide ((Str.ofString "copy") = (Str.ofString "same")) || decide ((Str.ofString "give") = (Str.ofString "same"))) = false from by decide +kernel) false (show decide ((Str.ofString "same") = (Str.ofString "end")) = false from by decide +kernel)).trans ?_
    congr 2 <;> (simp only [wrongM, firstLack, SM.orW, upM]; try (split <;> simp_all))
  | add n o =>
    rw [if_seq (eqW (r := (.add n o)) "open" (by decide +kernel) (b := false) (show decide ((Str.ofString "add") = (Str.ofString "open")) = false from by decide +kernel) .un .un .un), if_neg Bool.false_ne_true, next_seq]
    refine (rest_ev (r := (.add n o)) hk hh hl .un .un false (show decide ((Str.ofString "add") = (Str.ofString "same")) = false from by decide +kernel) o (fun z => by cases z) [(1, n), (2, o)] (show (decide ((Str.ofString "copy") = (Str.ofString "add")) || decide ((Str.ofString "add") = (Str.ofString "add")) || decide ((Str.ofString "tell") = (Str.ofString "add"))) = true from by decide +kernel) (fun _ => (look3 ..).trans ((if_neg (show ¬ (Str.ofString "copy") = (Str.ofString "add") from by decide +kernel)).trans (if_pos rfl))) (fun q m => by
      simp only [List.mem_cons, List.not_mem_nil, or_false] at m
      rcases m with rfl | rfl <;> rfl) none (show (decide ((Str.ofString "lay") = (Str.ofString "add")) || decide ((Str.ofString "copy") = (Str.ofString "add")) || decide ((Str.ofString "give") = (Str.ofString "add"))) = false from by decide +kernel) false (show decide ((Str.ofString "add") = (Str.ofString "end")) = false from by decide +kernel)).trans ?_
    refine congrArg (fun z => some (PyData.str z)) ((if_neg (fun z => by cases z.1)).trans ?_)
    rw [if_neg (show ¬ (false = true ∧ L.opn ≠ []) from fun z => by cases z.1)]
    simp only [firstLack, orW_r]
    rfl
  | tell n =>
    rw [if_seq (eqW (r := (.tell n)) "open" (by decide +kernel) (b := false) (show decide ((Str.ofString "tell") = (Str.ofString "open")) = false from by decide +kernel) .un .un .un), if_neg Bool.false_ne_true, next_seq]
    refine (rest_ev (r := (.tell n)) hk hh hl .un .un false (show decide ((Str.ofString "tell") = (Str.ofString "same")) = false from by decide +kernel) n (fun z => by cases z) [(1, n)] (show (decide ((Str.ofString "copy") = (Str.ofString "tell")) || decide ((Str.ofString "add") = (Str.ofString "tell")) || decide ((Str.ofString "tell") = (Str.ofString "tell"))) = true from by decide +kernel) (fun _ => (look3 ..).trans ((if_neg (show ¬ (Str.ofString "copy") = (Str.ofString "tell") from by decide +kernel)).trans ((if_neg (show ¬ (Str.ofString "add") = (Str.ofString "tell") from by decide +kernel)).trans (if_pos rfl)))) (fun q m => by
      simp only [List.mem_cons, List.not_mem_nil, or_false] at m
      subst m
      rfl) none (show (decide ((Str.ofString "lay") = (Str.ofString "tell")) || decide ((Str.ofString "copy") = (Str.ofString "tell")) || decide ((Str.ofString "give") = (Str.ofString "tell"))) = false from by decide +kernel) false (show decide ((Str.ofString "tell") = (Str.ofString "end")) = false from by decide +kernel)).trans ?_
    congr 2 <;> (simp only [wrongM, firstLack, SM.orW, upM]; try (split <;> simp_all))
  | give p =>
    rw [if_seq (eqW (r := (.give p)) "open" (by decide +kernel) (b := false) (show decide ((Str.ofString "give") = (Str.ofString "open")) = false from by decide +kernel) .un .un .un), if_neg Bool.false_ne_true, next_seq]
    refine (rest_ev (r := (.give p)) hk hh hl .un .un false (show decide ((Str.ofString "give") = (Str.ofString "same")) = false from by decide +kernel) p (fun z => by cases z) [] (show (decide ((Str.ofString "copy") = (Str.ofString "give")) || decide ((Str.ofString "add") = (Str.ofString "give")) || decide ((Str.ofString "tell") = (Str.ofString "give"))) = false from by decide +kernel) (fun z => absurd rfl z) (fun q m => by cases m) (some (1, p)) ⟨(show (decide ((Str.ofString "lay") = (Str.ofString "give")) || decide ((Str.ofString "copy") = (Str.ofString "give")) || decide ((Str.ofString "give") = (Str.ofString "give"))) = true from by decide +kernel), (look3 ..).trans ((if_neg (show ¬ (Str.ofString "lay") = (Str.ofString "give") from by decide +kernel)).trans ((if_neg (show ¬ (Str.ofString "copy") = (Str.ofString "give") from by decide +kernel)).trans (if_pos rfl))), rfl, hr p (by simp [textsR])⟩ false (show decide ((Str.ofString "give") = (Str.ofString "end")) = false from by decide +kernel)).trans ?_
    congr 2 <;> (simp only [wrongM, firstLack, SM.orW, upM]; try (split <;> simp_all))
  | fork k =>
    rw [if_seq (eqW (r := (.fork k)) "open" (by decide +kernel) (b := false) (show decide ((Str.ofString "fork") = (Str.ofString "open")) = false from by decide +kernel) .un .un .un), if_neg Bool.false_ne_true, next_seq]
    refine (rest_ev (r := (.fork k)) hk hh hl .un .un false (show decide ((Str.ofString "fork") = (Str.ofString "same")) = false from by decide +kernel) "" (fun z => by cases z) [] (show (decide ((Str.ofString "copy") = (Str.ofString "fork")) || decide ((Str.ofString "add") = (Str.ofString "fork")) || decide ((Str.ofString "tell") = (Str.ofString "fork"))) = false from by decide +kernel) (fun z => absurd rfl z) (fun q m => by cases m) none (show (decide ((Str.ofString "lay") = (Str.ofString "fork")) || decide ((Str.ofString "copy") = (Str.ofString "fork")) || decide ((Str.ofString "give") = (Str.ofString "fork"))) = false from by decide +kernel) false (show decide ((Str.ofString "fork") = (Str.ofString "end")) = false from by decide +kernel)).trans ?_
    congr 2 <;> (simp only [wrongM, firstLack, SM.orW, upM]; try (split <;> simp_all))
  | go k =>
    rw [if_seq (eqW (r := (.go k)) "open" (by decide +kernel) (b := false) (show decide ((Str.ofString "go") = (Str.ofString "open")) = false from by decide +kernel) .un .un .un), if_neg Bool.false_ne_true, next_seq]
    refine (rest_ev (r := (.go k)) hk hh hl .un .un false (show decide ((Str.ofString "go") = (Str.ofString "same")) = false from by decide +kernel) "" (fun z => by cases z) [] (show (decide ((Str.ofString "copy") = (Str.ofString "go")) || decide ((Str.ofString "add") = (Str.ofString "go")) || decide ((Str.ofString "tell") = (Str.ofString "go"))) = false from by decide +kernel) (fun z => absurd rfl z) (fun q m => by cases m) none (show (decide ((Str.ofString "lay") = (Str.ofString "go")) || decide ((Str.ofString "copy") = (Str.ofString "go")) || decide ((Str.ofString "give") = (Str.ofString "go"))) = false from by decide +kernel) false (show decide ((Str.ofString "go") = (Str.ofString "end")) = false from by decide +kernel)).trans ?_
    congr 2 <;> (simp only [wrongM, firstLack, SM.orW, upM]; try (split <;> simp_all))
  | end_ =>
    rw [if_seq (eqW (r := .end_) "open" (by decide +kernel) (b := false) (show decide ((Str.ofString "end") = (Str.ofString "open")) = false from by decide +kernel) .un .un .un), if_neg Bool.false_ne_true, next_seq]
    refine (rest_ev (r := .end_) hk hh hl .un .un false (show decide ((Str.ofString "end") = (Str.ofString "same")) = false from by decide +kernel) "" (fun z => by cases z) [] (show (decide ((Str.ofString "copy") = (Str.ofString "end")) || decide ((Str.ofString "add") = (Str.ofString "end")) || decide ((Str.ofString "tell") = (Str.ofString "end"))) = false from by decide +kernel) (fun z => absurd rfl z) (fun q m => by cases m) none (show (decide ((Str.ofString "lay") = (Str.ofString "end")) || decide ((Str.ofString "copy") = (Str.ofString "end")) || decide ((Str.ofString "give") = (Str.ofString "end"))) = false from by decide +kernel) true (show decide ((Str.ofString "end") = (Str.ofString "end")) = true from by decide +kernel)).trans ?_
    congr 2 <;> (simp only [wrongM, firstLack, SM.orW, upM]; try (split <;> simp_all))
end
end K09
namespace K09
open PySem L2 PySem.Spec PyProof.Rows PL PR
/-! ### the law's deed -/
def valM (L : LS) (x : Str) : Int := match getA L.held x with
  | none => 0
  | some i => match L.worth[i]? with
    | none => 0
    | some z => z.1
def insideM (ps : List (Str × Option Str)) (L : LS) (p : Str) : List (Str × Int) := L.opn.filter fun q => decide (p ∈ outM ps q.1)
def layM (L : LS) (n p : Str) (z : Int) : LS := { L with held := putA L.held n L.worth.length, worth := L.worth ++ [(z, (getA L.opn p).getD 0)] }
def deedM (ps : List (Str × Option Str)) (L : LS) : PL.Row → LS
  | .open_ x => { L with opn := L.opn ++ [(x, L.many)], many := L.many + 1 }
  | .lay n p z => layM L n p z
  | .copy n o p => layM L n p (valM L o)
  | .same n o => match getA L.held o with
    | some i => { L with held := putA L.held n i }
    | none => L
  | .add n o => match getA L.held n with
    | some i => { L with worth := L.worth.modify i fun q => (q.1 + valM L o, q.2) }
    | none => L
  | .tell n => { L with told := L.told ++ [valM L n] }
  | .give p => { L with given := L.given ++ (insideM ps L p).reverse.map (·.2), opn := L.opn.filter fun q => decide (p ∉ outM ps q.1) }
  | _ => L
theorem deed_here (ps : List (Str × Option Str)) (L : LS) (r : PL.Row) : (deedM ps L r).here = L.here := by
  cases r <;> (try rfl)
  · show (match getA L.held _ with | some i => _ | none => L : LS).here = _
    split <;> rfl
  · show (match getA L.held _ with | some i => _ | none => L : LS).here = _
    split <;> rfl
abbrev ED (ps : List (Str × Option Str)) (L : LS) (r : PL.Row) (k4 k5 k6 k7 k10 : Sl) : PL.Env := [.sh (encPs ps), .ob (.ls L), .sh (.tuple (rowD r)), .sh (.str (wordR r)), k4, k5, k6, k7, .un, .un, k10, .un]
section
variable {ps : List (Str × Option Str)} {L : LS}
theorem eqD (r : PL.Row) (z : Str) (hz : PyData.strOk z = true) {b : Bool} (hb : decide (wordR r = z) = b) (k4 k5 k6 k7 k10 : Sl) : tE (e2 gEq (eVarO 3) (eC (.str z))) (ED ps L r k4 k5 k6 k7 k10) = some b := by
  rw [← hb]
  exact eqz_ev rfl rfl (wordR_ok r) hz
theorem lack_no {x : Str} (hh : ∀ q ∈ L.held, q.2 < L.worth.length) (h : lackM L x = "") : ∃ i z, getA L.held x = some i ∧ L.worth[i]? = some z ∧ valM L x = z.1 := by
  unfold lackM at h
  split at h
  · exact absurd h (by decide +kernel)
  · rename_i i hi
    split at h
    · exact absurd h (by decide +kernel)
    · rename_i z hz
      refine ⟨i, z, hi, hz, ?_⟩
      unfold valM
      rw [hi]
      show (match L.worth[i]? with | none => (0 : Int) | some z => z.1) = _
      rw [hz]
structure Fine (ps : List (Str × Option Str)) (L : LS) : Prop where
  hp : ps.all okP = true
  hpl : ps.length ≤ 1000
  hk : ∀ y ∈ keysM L, PyData.strOk y = true
  hh : ∀ q ∈ L.held, q.2 < L.worth.length
  ho : L.opn.length ≤ 1000
  hn : L.held.length < 50000 ∧ L.worth.length < 50000 ∧ L.told.length < 50000 ∧ L.given.length < 50000
theorem deed_open (I : Fine ps L) (x : Str)  : ∃ k4 k5 k6 k7 k10, F__law_deed [.sh (encPs ps), .ob (.ls L), .sh (.tuple (rowD (.open_ x))), .un, .un, .un, .un, .un, .un, .un, .un, .un] = some (.nx (ED ps (deedM ps L (.open_ x)) (.open_ x) k4 k5 k6 k7 k10)) := by
  obtain ⟨n1, n2, n3, n4⟩ := I.hn
  have ho := I.ho
  unfold F__law_deed
  rw [seq_asg (ixt_ev (ds := rowD (.open_ x)) (i := ((0 : Nat) : Int)) rfl rfl (atI_nat' rfl))]
  dsimp only [List.set]
  refine ⟨.un, .un, .un, .un, .un, ?_⟩
  refine (if_yes (eqD (.open_ x) "open" (by decide +kernel) rfl .un .un .un .un .un)).trans ?_
  rw [seq_nx (opnapp_nx (x := x) (n := L.many) rfl rfl (by omega))]
  dsimp only [List.set]
  have ha : e2 gAdd (eMany 1) (eC (.int 1)) [.sh (encPs ps), .ob (.ls { L with opn := L.opn ++ [(x, L.many)] }), .sh (.tuple (rowD (.open_ x))), .sh (.str (wordR (.open_ x))), .un, .un, .un, .un, .un, .un, .un, .un] = some (.int (L.many + 1)) := add_ev (a := eMany 1) (b := eC (.int 1)) (i := L.many) (j := 1) rfl rfl
  exact (many_nx (i := 1) (L := { L with opn := L.opn ++ [(x, L.many)] }) rfl ha).trans rfl
theorem deed_tell (I : Fine ps L) (n : Str) (hw : lackM L n = "") : ∃ k4 k5 k6 k7 k10, F__law_deed [.sh (encPs ps), .ob (.ls L), .sh (.tuple (rowD (.tell n))), .un, .un, .un, .un, .un, .un, .un, .un, .un] = some (.nx (ED ps (deedM ps L (.tell n)) (.tell n) k4 k5 k6 k7 k10)) := by
  obtain ⟨n1, n2, n3, n4⟩ := I.hn
  have ho := I.ho
  obtain ⟨i, z, h1, h2, h3⟩ := lack_no I.hh hw
  unfold F__law_deed
  rw [seq_asg (ixt_ev (ds := rowD (.tell n)) (i := ((0 : Nat) : Int)) rfl rfl (atI_nat' rfl))]
  dsimp only [List.set]
  refine ⟨.un, .un, .un, .un, .un, ?_⟩
  refine (if_no (eqD (.tell n) "open" (by decide +kernel) (b := false) (show decide ((Str.ofString "tell") = (Str.ofString "open")) = false from by decide +kernel) .un .un .un .un .un)).trans ?_
  refine (if_no (tO_ev (x := false) (y := false) (eqD (.tell n) "lay" (by decide +kernel) (show decide ((Str.ofString "tell") = (Str.ofString "lay")) = false from by decide +kernel) .un .un .un .un .un) (fun _ => eqD (.tell n) "copy" (by decide +kernel) (show decide ((Str.ofString "tell") = (Str.ofString "copy")) = false from by decide +kernel) .un .un .un .un .un))).trans ?_
  refine (if_no (eqD (.tell n) "same" (by decide +kernel) (b := false) (show decide ((Str.ofString "tell") = (Str.ofString "same")) = false from by decide +kernel) .un .un .un .un .un)).trans ?_
  refine (if_no (eqD (.tell n) "add" (by decide +kernel) (b := false) (show decide ((Str.ofString "tell") = (Str.ofString "add")) = false from by decide +kernel) .un .un .un .un .un)).trans ?_
  refine (if_yes (eqD (.tell n) "tell" (by decide +kernel) rfl .un .un .un .un .un)).trans ?_
  refine (told_nx (n := z.1) rfl (worthat_ev rfl (heldat_ev (x := n) rfl (ixt_ev (ds := rowD (.tell n)) (i := ((1 : Nat) : Int)) rfl rfl rfl) h1) h2) (by omega)).trans ?_
  rw [← h3]
  rfl
theorem deed_same (I : Fine ps L) (n o : Str) (i : Nat) (hi : getA L.held o = some i) : ∃ k4 k5 k6 k7 k10, F__law_deed [.sh (encPs ps), .ob (.ls L), .sh (.tuple (rowD (.same n o))), .un, .un, .un, .un, .un, .un, .un, .un, .un] = some (.nx (ED ps (deedM ps L (.same n o)) (.same n o) k4 k5 k6 k7 k10)) := by
  obtain ⟨n1, n2, n3, n4⟩ := I.hn
  have ho := I.ho
  unfold F__law_deed
  rw [seq_asg (ixt_ev (ds := rowD (.same n o)) (i := ((0 : Nat) : Int)) rfl rfl (atI_nat' rfl))]
  dsimp only [List.set]
  refine ⟨.un, .un, .un, .un, .un, ?_⟩
  refine (if_no (eqD (.same n o) "open" (by decide +kernel) (b := false) (show decide ((Str.ofString "same") = (Str.ofString "open")) = false from by decide +kernel) .un .un .un .un .un)).trans ?_
  refine (if_no (tO_ev (x := false) (y := false) (eqD (.same n o) "lay" (by decide +kernel) (show decide ((Str.ofString "same") = (Str.ofString "lay")) = false from by decide +kernel) .un .un .un .un .un) (fun _ => eqD (.same n o) "copy" (by decide +kernel) (show decide ((Str.ofString "same") = (Str.ofString "copy")) = false from by decide +kernel) .un .un .un .un .un))).trans ?_
  refine (if_yes (eqD (.same n o) "same" (by decide +kernel) rfl .un .un .un .un .un)).trans ?_
  refine (hold_nx (x := n) (n := i) rfl (ixt_ev (ds := rowD (.same n o)) (i := ((1 : Nat) : Int)) rfl rfl rfl) (heldat_ev (x := o) rfl (ixt_ev (ds := rowD (.same n o)) (i := ((2 : Nat) : Int)) rfl rfl rfl) hi) (by omega)).trans ?_
  have : deedM ps L (.same n o) = { L with held := putA L.held n i } := by
    show (match getA L.held o with | some i => { L with held := putA L.held n i } | none => L : LS) = _
    rw [hi]
  rw [this]
  rfl
theorem deed_add (I : Fine ps L) (n o : Str) (hw : lackM L n = "") (hw2 : lackM L o = "") : ∃ k4 k5 k6 k7 k10, F__law_deed [.sh (encPs ps), .ob (.ls L), .sh (.tuple (rowD (.add n o))), .un, .un, .un, .un, .un, .un, .un, .un, .un] = some (.nx (ED ps (deedM ps L (.add n o)) (.add n o) k4 k5 k6 k7 k10)) := by
  obtain ⟨n1, n2, n3, n4⟩ := I.hn
  have ho := I.ho
  obtain ⟨i, z, h1, h2, h3⟩ := lack_no I.hh hw
  obtain ⟨j, z2, g1, g2, g3⟩ := lack_no I.hh hw2
  unfold F__law_deed
  rw [seq_asg (ixt_ev (ds := rowD (.add n o)) (i := ((0 : Nat) : Int)) rfl rfl (atI_nat' rfl))]
  dsimp only [List.set]
  refine ⟨.un, .un, .un, .sh (.int z2.1), .un, ?_⟩
  refine (if_no (eqD (.add n o) "open" (by decide +kernel) (b := false) (show decide ((Str.ofString "add") = (Str.ofString "open")) = false from by decide +kernel) .un .un .un .un .un)).trans ?_
  refine (if_no (tO_ev (x := false) (y := false) (eqD (.add n o) "lay" (by decide +kernel) (show decide ((Str.ofString "add") = (Str.ofString "lay")) = false from by decide +kernel) .un .un .un .un .un) (fun _ => eqD (.add n o) "copy" (by decide +kernel) (show decide ((Str.ofString "add") = (Str.ofString "copy")) = false from by decide +kernel) .un .un .un .un .un))).trans ?_
  refine (if_no (eqD (.add n o) "same" (by decide +kernel) (b := false) (show decide ((Str.ofString "add") = (Str.ofString "same")) = false from by decide +kernel) .un .un .un .un .un)).trans ?_
  refine (if_yes (eqD (.add n o) "add" (by decide +kernel) rfl .un .un .un .un .un)).trans ?_
  rw [seq_asg (worthat_ev rfl (heldat_ev (x := o) rfl (ixt_ev (ds := rowD (.add n o)) (i := ((2 : Nat) : Int)) rfl rfl rfl) g1) g2)]
  dsimp only [List.set]
  refine (waug_nx (n := i) (m := z2.1) rfl (heldat_ev (x := n) rfl (ixt_ev (ds := rowD (.add n o)) (i := ((1 : Nat) : Int)) rfl rfl rfl) h1) rfl (List.getElem?_eq_some_iff.mp h2).1).trans ?_
  have : deedM ps L (.add n o) = { L with worth := L.worth.modify i fun q => (q.1 + z2.1, q.2) } := by
    show (match getA L.held n with | some i => { L with worth := L.worth.modify i fun q => (q.1 + valM L o, q.2) } | none => L : LS) = _
    rw [h1, g3]
  rw [this]
  rfl
theorem deed_fork (I : Fine ps L) (k : Int)  : ∃ k4 k5 k6 k7 k10, F__law_deed [.sh (encPs ps), .ob (.ls L), .sh (.tuple (rowD (.fork k))), .un, .un, .un, .un, .un, .un, .un, .un, .un] = some (.nx (ED ps (deedM ps L (.fork k)) (.fork k) k4 k5 k6 k7 k10)) := by
  obtain ⟨n1, n2, n3, n4⟩ := I.hn
  have ho := I.ho
  unfold F__law_deed
  rw [seq_asg (ixt_ev (ds := rowD (.fork k)) (i := ((0 : Nat) : Int)) rfl rfl (atI_nat' rfl))]
  dsimp only [List.set]
  refine ⟨.un, .un, .un, .un, .un, ?_⟩
  refine (if_no (eqD (.fork k) "open" (by decide +kernel) (b := false) (show decide ((Str.ofString "fork") = (Str.ofString "open")) = false from by decide +kernel) .un .un .un .un .un)).trans ?_
  refine (if_no (tO_ev (x := false) (y := false) (eqD (.fork k) "lay" (by decide +kernel) (show decide ((Str.ofString "fork") = (Str.ofString "lay")) = false from by decide +kernel) .un .un .un .un .un) (fun _ => eqD (.fork k) "copy" (by decide +kernel) (show decide ((Str.ofString "fork") = (Str.ofString "copy")) = false from by decide +kernel) .un .un .un .un .un))).trans ?_
  refine (if_no (eqD (.fork k) "same" (by decide +kernel) (b := false) (show decide ((Str.ofString "fork") = (Str.ofString "same")) = false from by decide +kernel) .un .un .un .un .un)).trans ?_
  refine (if_no (eqD (.fork k) "add" (by decide +kernel) (b := false) (show decide ((Str.ofString "fork") = (Str.ofString "add")) = false from by decide +kernel) .un .un .un .un .un)).trans ?_
  refine (if_no (eqD (.fork k) "tell" (by decide +kernel) (b := false) (show decide ((Str.ofString "fork") = (Str.ofString "tell")) = false from by decide +kernel) .un .un .un .un .un)).trans ?_
  refine (if_no (eqD (.fork k) "give" (by decide +kernel) (b := false) (show decide ((Str.ofString "fork") = (Str.ofString "give")) = false from by decide +kernel) .un .un .un .un .un)).trans ?_
  rfl
theorem deed_go (I : Fine ps L) (k : Int)  : ∃ k4 k5 k6 k7 k10, F__law_deed [.sh (encPs ps), .ob (.ls L), .sh (.tuple (rowD (.go k))), .un, .un, .un, .un, .un, .un, .un, .un, .un] = some (.nx (ED ps (deedM ps L (.go k)) (.go k) k4 k5 k6 k7 k10)) := by
  obtain ⟨n1, n2, n3, n4⟩ := I.hn
  have ho := I.ho
  unfold F__law_deed
  rw [seq_asg (ixt_ev (ds := rowD (.go k)) (i := ((0 : Nat) : Int)) rfl rfl (atI_nat' rfl))]
  dsimp only [List.set]
  refine ⟨.un, .un, .un, .un, .un, ?_⟩
  refine (if_no (eqD (.go k) "open" (by decide +kernel) (b := false) (show decide ((Str.ofString "go") = (Str.ofString "open")) = false from by decide +kernel) .un .un .un .un .un)).trans ?_
  refine (if_no (tO_ev (x := false) (y := false) (eqD (.go k) "lay" (by decide +kernel) (show decide ((Str.ofString "go") = (Str.ofString "lay")) = false from by decide +kernel) .un .un .un .un .un) (fun _ => eqD (.go k) "copy" (by decide +kernel) (show decide ((Str.ofString "go") = (Str.ofString "copy")) = false from by decide +kernel) .un .un .un .un .un))).trans ?_
  refine (if_no (eqD (.go k) "same" (by decide +kernel) (b := false) (show decide ((Str.ofString "go") = (Str.ofString "same")) = false from by decide +kernel) .un .un .un .un .un)).trans ?_
  refine (if_no (eqD (.go k) "add" (by decide +kernel) (b := false) (show decide ((Str.ofString "go") = (Str.ofString "add")) = false from by decide +kernel) .un .un .un .un .un)).trans ?_
  refine (if_no (eqD (.go k) "tell" (by decide +kernel) (b := false) (show decide ((Str.ofString "go") = (Str.ofString "tell")) = false from by decide +kernel) .un .un .un .un .un)).trans ?_
  refine (if_no (eqD (.go k) "give" (by decide +kernel) (b := false) (show decide ((Str.ofString "go") = (Str.ofString "give")) = false from by decide +kernel) .un .un .un .un .un)).trans ?_
  rfl
theorem deed_end (I : Fine ps L)   : ∃ k4 k5 k6 k7 k10, F__law_deed [.sh (encPs ps), .ob (.ls L), .sh (.tuple (rowD .end_)), .un, .un, .un, .un, .un, .un, .un, .un, .un] = some (.nx (ED ps (deedM ps L .end_) .end_ k4 k5 k6 k7 k10)) := by
  obtain ⟨n1, n2, n3, n4⟩ := I.hn
  have ho := I.ho
  unfold F__law_deed
  rw [seq_asg (ixt_ev (ds := rowD .end_) (i := ((0 : Nat) : Int)) rfl rfl (atI_nat' rfl))]
  dsimp only [List.set]
  refine ⟨.un, .un, .un, .un, .un, ?_⟩
  refine (if_no (eqD .end_ "open" (by decide +kernel) (b := false) (show decide ((Str.ofString "end") = (Str.ofString "open")) = false from by decide +kernel) .un .un .un .un .un)).trans ?_
  refine (if_no (tO_ev (x := false) (y := false) (eqD .end_ "lay" (by decide +kernel) (show decide ((Str.ofString "end") = (Str.ofString "lay")) = false from by decide +kernel) .un .un .un .un .un) (fun _ => eqD .end_ "copy" (by decide +kernel) (show decide ((Str.ofString "end") = (Str.ofString "copy")) = false from by decide +kernel) .un .un .un .un .un))).trans ?_
  refine (if_no (eqD .end_ "same" (by decide +kernel) (b := false) (show decide ((Str.ofString "end") = (Str.ofString "same")) = false from by decide +kernel) .un .un .un .un .un)).trans ?_
  refine (if_no (eqD .end_ "add" (by decide +kernel) (b := false) (show decide ((Str.ofString "end") = (Str.ofString "add")) = false from by decide +kernel) .un .un .un .un .un)).trans ?_
  refine (if_no (eqD .end_ "tell" (by decide +kernel) (b := false) (show decide ((Str.ofString "end") = (Str.ofString "tell")) = false from by decide +kernel) .un .un .un .un .un)).trans ?_
  refine (if_no (eqD .end_ "give" (by decide +kernel) (b := false) (show decide ((Str.ofString "end") = (Str.ofString "give")) = false from by decide +kernel) .un .un .un .un .un)).trans ?_
  rfl
end
section
variable {ps : List (Str × Option Str)} {L : LS}
theorem home_ev (I : Fine ps L) (r : PL.Row) (p : Str) (hp : PyData.strOk p = true) (hup : p ∈ keysM L) (k5 k6 k7 k10 : Sl) :
    e2 gIx (eL (nLc (iLS (eOpn 1)) (tgT 2 (tgCons (tgN 8) (tgCons (tgN 9) tgNil))) (tE (e2 gEq (eVarO 8) (eVarO 4))) (eVar 9) [8, 9])) (eC (.int 0)) (ED ps L r (.sh (.str p)) k5 k6 k7 k10) = some (.int ((getA L.opn p).getD 0)) := by
  have ho := I.ho
  have hc : eL (nLc (iLS (eOpn 1)) (tgT 2 (tgCons (tgN 8) (tgCons (tgN 9) tgNil))) (tE (e2 gEq (eVarO 8) (eVarO 4))) (eVar 9) [8, 9]) (ED ps L r (.sh (.str p)) k5 k6 k7 k10) = some (.list ((L.opn.filter fun q => decide (q.1 = p)).map fun q => PyData.int q.2)) := by
    have hi : iLS (eOpn 1) (ED ps L r (.sh (.str p)) k5 k6 k7 k10) = some (L.opn.map encQ) := rfl
    refine eL_ev ?_
    unfold nLc
    rw [hi, Option.bind_some, if_pos (by rw [List.length_map]; omega)]
    rw [lc_gen (fun d => match d with | .tuple [a, b] => [.sh (encPs ps), .ob (.ls L), .sh (.tuple (rowD r)), .sh (.str (wordR r)), .sh (.str p), k5, k6, k7, .sh a, .sh b, k10, .un] | _ => []) (fun d => match d with | .tuple [.str x, _] => decide (x = p) | _ => false) (fun d => match d with | .tuple [a, b] => b | _ => .none)]
    · rw [List.filter_map, List.map_map]
      rfl
    · intro d m
      obtain ⟨q, _, rfl⟩ := List.mem_map.mp m
      rfl
    · intro d m
      obtain ⟨q, mq, rfl⟩ := List.mem_map.mp m
      exact eqz_ev rfl rfl (I.hk _ (List.mem_map_of_mem mq)) hp
    · intro d m _
      obtain ⟨q, _, rfl⟩ := List.mem_map.mp m
      rfl
  refine ix_ev (i := ((0 : Nat) : Int)) hc rfl (atI_nat' ?_)
  have hf : (L.opn.filter fun q => decide (q.1 = p)).head? = L.opn.find? fun q => decide (q.1 = p) := List.head?_filter ..
  unfold getA
  cases hg : L.opn.find? fun q => decide (q.1 = p) with
  | none =>
    obtain ⟨q, mq, e⟩ := List.mem_map.mp hup
    exact absurd (List.find?_eq_none.mp hg q mq) (by simp [e])
  | some q =>
    rw [hg] at hf
    rw [List.getElem?_map, ← List.head?_eq_getElem?, hf]
    rfl
theorem deed_lay (I : Fine ps L) (n p : Str) (z : Int) (hp : PyData.strOk p = true) (hup : p ∈ keysM L) : ∃ k4 k5 k6 k7 k10, F__law_deed [.sh (encPs ps), .ob (.ls L), .sh (.tuple (rowD (.lay n p z))), .un, .un, .un, .un, .un, .un, .un, .un, .un] = some (.nx (ED ps (deedM ps L (.lay n p z)) (.lay n p z) k4 k5 k6 k7 k10)) := by
  obtain ⟨n1, n2, n3, n4⟩ := I.hn
  have ho := I.ho
  unfold F__law_deed
  rw [seq_asg (ixt_ev (ds := rowD (.lay n p z)) (i := ((0 : Nat) : Int)) rfl rfl (atI_nat' rfl))]
  dsimp only [List.set]
  refine ⟨.sh (.str p), .sh (.int z), .sh (.int ((getA L.opn p).getD 0)), .un, .un, ?_⟩
  refine (if_no (eqD (.lay n p z) "open" (by decide +kernel) (b := false) (show decide (Str.ofString "lay" = Str.ofString "open") = false from by decide +kernel) .un .un .un .un .un)).trans ?_
  refine (if_yes (tO_ev (x := true) (y := true) (eqD (.lay n p z) "lay" (by decide +kernel) rfl .un .un .un .un .un) (fun z => by cases z))).trans ?_
  rw [seq_asg (eif_ev (d := .str p) (eqD (.lay n p z) "lay" (by decide +kernel) (b := true) rfl .un .un .un .un .un) (fun _ => ixt_ev (ds := rowD (.lay n p z)) (i := ((2 : Nat) : Int)) rfl rfl rfl) (fun z => by cases z))]
  dsimp only [List.set]
  rw [seq_asg (eif_ev (d := .int z) (eqD (.lay n p z) "lay" (by decide +kernel) (b := true) rfl (.sh (.str p)) .un .un .un .un) (fun _ => ixt_ev (ds := rowD (.lay n p z)) (i := ((3 : Nat) : Int)) rfl rfl rfl) (fun z => by cases z))]
  dsimp only [List.set]
  rw [seq_asg (home_ev I (.lay n p z) p hp hup _ _ _ _)]
  dsimp only [List.set]
  have hw : eLenWorth 1 (ED ps L (.lay n p z) (.sh (.str p)) (.sh (.int z)) (.sh (.int ((getA L.opn p).getD 0))) .un .un) = some (.int (L.worth.length : Int)) := rfl
  rw [seq_nx (hold_nx (x := n) (n := L.worth.length) rfl (ixt_ev (ds := rowD (.lay n p z)) (i := ((1 : Nat) : Int)) rfl rfl rfl) hw (by omega))]
  dsimp only [List.set]
  exact (worth_nx (i := 1) (L := { L with held := putA L.held n L.worth.length }) (w := z) (h := (getA L.opn p).getD 0) rfl rfl (by show L.worth.length < _; omega)).trans rfl
theorem deed_copy (I : Fine ps L) (n o p : Str) (hp : PyData.strOk p = true) (hup : p ∈ keysM L) (hw0 : lackM L o = "") : ∃ k4 k5 k6 k7 k10, F__law_deed [.sh (encPs ps), .ob (.ls L), .sh (.tuple (rowD (.copy n o p))), .un, .un, .un, .un, .un, .un, .un, .un, .un] = some (.nx (ED ps (deedM ps L (.copy n o p)) (.copy n o p) k4 k5 k6 k7 k10)) := by
  obtain ⟨n1, n2, n3, n4⟩ := I.hn
  have ho := I.ho
  obtain ⟨i, z, h1, h2, h3⟩ := lack_no I.hh hw0
  unfold F__law_deed
  rw [seq_asg (ixt_ev (ds := rowD (.copy n o p)) (i := ((0 : Nat) : Int)) rfl rfl (atI_nat' rfl))]
  dsimp only [List.set]
  refine ⟨.sh (.str p), .sh (.int z.1), .sh (.int ((getA L.opn p).getD 0)), .un, .un, ?_⟩
  have nl : decide (wordR (.copy n o p) = "lay") = false := show decide (Str.ofString "copy" = Str.ofString "lay") = false from by decide +kernel
  refine (if_no (eqD (.copy n o p) "open" (by decide +kernel) (b := false) (show decide (Str.ofString "copy" = Str.ofString "open") = false from by decide +kernel) .un .un .un .un .un)).trans ?_
  refine (if_yes (tO_ev (x := false) (y := true) (eqD (.copy n o p) "lay" (by decide +kernel) nl .un .un .un .un .un) (fun _ => eqD (.copy n o p) "copy" (by decide +kernel) rfl .un .un .un .un .un))).trans ?_
  rw [seq_asg (eif_ev (d := .str p) (eqD (.copy n o p) "lay" (by decide +kernel) nl .un .un .un .un .un) (fun z => by cases z) (fun _ => ixt_ev (ds := rowD (.copy n o p)) (i := ((3 : Nat) : Int)) rfl rfl rfl))]
  dsimp only [List.set]
  rw [seq_asg (eif_ev (d := .int z.1) (eqD (.copy n o p) "lay" (by decide +kernel) nl (.sh (.str p)) .un .un .un .un) (fun z => by cases z) (fun _ => worthat_ev rfl (heldat_ev (x := o) rfl (ixt_ev (ds := rowD (.copy n o p)) (i := ((2 : Nat) : Int)) rfl rfl rfl) h1) h2))]
  dsimp only [List.set]
  rw [seq_asg (home_ev I (.copy n o p) p hp hup _ _ _ _)]
  dsimp only [List.set]
  have hw : eLenWorth 1 (ED ps L (.copy n o p) (.sh (.str p)) (.sh (.int z.1)) (.sh (.int ((getA L.opn p).getD 0))) .un .un) = some (.int (L.worth.length : Int)) := rfl
  rw [seq_nx (hold_nx (x := n) (n := L.worth.length) rfl (ixt_ev (ds := rowD (.copy n o p)) (i := ((1 : Nat) : Int)) rfl rfl rfl) hw (by omega))]
  dsimp only [List.set]
  refine (worth_nx (i := 1) (L := { L with held := putA L.held n L.worth.length }) (w := z.1) (h := (getA L.opn p).getD 0) rfl rfl (by show L.worth.length < _; omega)).trans ?_
  have : deedM ps L (.copy n o p) = { L with held := putA L.held n L.worth.length, worth := L.worth ++ [(z.1, (getA L.opn p).getD 0)] } := by
    show layM L n p (valM L o) = _
    rw [h3]
    rfl
  rw [this]
  rfl
end
theorem eqv_us (a b : Str × Int) : PyData.eqv (encQ a) (encQ b) = decide (a = b) := by
  show (PyData.eqv (.str a.1) (.str b.1) && (PyData.eqv (.int a.2) (.int b.2) && true)) = _
  rw [eqv_str, eqv_int, Bool.and_true, Bool.eq_iff_iff, Bool.and_eq_true, decide_eq_true_eq, decide_eq_true_eq, decide_eq_true_eq]
  exact ⟨fun h => Prod.ext h.1 h.2, fun h => by rw [h]; exact ⟨rfl, rfl⟩⟩
theorem fit_u {q : Str × Int} (h : PyData.strOk q.1 = true) : Fit 1 (encQ q) := fit_tup (n := 0) fun e me => by
  simp only [List.mem_cons, List.not_mem_nil, or_false] at me
  rcases me with rfl | rfl
  · exact fit_str 0 h
  · exact fit_int 0 _
theorem in_us {neg : Bool} {x : Str × Int} {l : List (Str × Int)} (hx : PyData.strOk x.1 = true) (hl : ∀ y ∈ l, PyData.strOk y.1 = true) : gInL neg (encQ x) (.list (l.map encQ)) = some (.bool (if neg then !decide (x ∈ l) else decide (x ∈ l))) := by
  have h1 : SeqAt.shaped (.list (l.map encQ)) = true := (fit_list (n := 1) fun d m => by
    obtain ⟨y, my, rfl⟩ := List.mem_map.mp m
    exact fit_u (hl y my)).sh (by omega)
  show (if SeqAt.shaped (encQ x) && SeqAt.shaped (.list (l.map encQ)) then some (PyData.bool (if neg then !(l.map encQ).any fun z => PyData.eqv z (encQ x) else (l.map encQ).any fun z => PyData.eqv z (encQ x))) else none) = _
  rw [(fit_u hx).sh (by omega), h1]
  have h2 : ((l.map encQ).any fun z => PyData.eqv z (encQ x)) = decide (x ∈ l) := by
    rw [List.any_map, Bool.eq_iff_iff, List.any_eq_true, decide_eq_true_eq]
    constructor
    · rintro ⟨y, my, e⟩
      have e' : PyData.eqv (encQ y) (encQ x) = true := e
      rw [eqv_us] at e'
      rw [← of_decide_eq_true e']
      exact my
    · intro m
      refine ⟨x, m, ?_⟩
      show PyData.eqv (encQ x) (encQ x) = true
      rw [eqv_us]
      simp
  rw [h2]
  rfl
theorem nrev_ev {a : PL.Env → Option PyData} {env : PL.Env} {xs : List PyData} (h : a env = some (.list xs)) : nRev a env = some xs.reverse := by
  unfold nRev
  rw [h]
  rfl
section
variable {ps : List (Str × Option Str)} {L : LS}
theorem deed_give (I : Fine ps L) (p : Str) (hp : PyData.strOk p = true) : ∃ k4 k5 k6 k7 k10, F__law_deed [.sh (encPs ps), .ob (.ls L), .sh (.tuple (rowD (.give p))), .un, .un, .un, .un, .un, .un, .un, .un, .un] = some (.nx (ED ps (deedM ps L (.give p)) (.give p) k4 k5 k6 k7 k10)) := by
  obtain ⟨n1, n2, n3, n4⟩ := I.hn
  have ho := I.ho
  unfold F__law_deed
  rw [seq_asg (ixt_ev (ds := rowD (.give p)) (i := ((0 : Nat) : Int)) rfl rfl (atI_nat' rfl))]
  dsimp only [List.set]
  refine ⟨.un, .un, .un, .un, .sh (.list ((insideM ps L p).map encQ)), ?_⟩
  refine (if_no (eqD (.give p) "open" (by decide +kernel) (b := false) (show decide ((Str.ofString "give") = (Str.ofString "open")) = false from by decide +kernel) .un .un .un .un .un)).trans ?_
  refine (if_no (tO_ev (x := false) (y := false) (eqD (.give p) "lay" (by decide +kernel) (show decide ((Str.ofString "give") = (Str.ofString "lay")) = false from by decide +kernel) .un .un .un .un .un) (fun _ => eqD (.give p) "copy" (by decide +kernel) (show decide ((Str.ofString "give") = (Str.ofString "copy")) = false from by decide +kernel) .un .un .un .un .un))).trans ?_
  refine (if_no (eqD (.give p) "same" (by decide +kernel) (b := false) (show decide ((Str.ofString "give") = (Str.ofString "same")) = false from by decide +kernel) .un .un .un .un .un)).trans ?_
  refine (if_no (eqD (.give p) "add" (by decide +kernel) (b := false) (show decide ((Str.ofString "give") = (Str.ofString "add")) = false from by decide +kernel) .un .un .un .un .un)).trans ?_
  refine (if_no (eqD (.give p) "tell" (by decide +kernel) (b := false) (show decide ((Str.ofString "give") = (Str.ofString "tell")) = false from by decide +kernel) .un .un .un .un .un)).trans ?_
  refine (if_yes (eqD (.give p) "give" (by decide +kernel) rfl .un .un .un .un .un)).trans ?_
  have hin : eL (nLc (iLS (eOpn 1)) (tgN 11) (tE (e2 (gInL false) (e2 gIx (eVarO 2) (eC (.int 1))) (eL (fun env => ((aCons (eVar 0) (aCons (e2 gIx (eVarO 11) (eC (.int 0))) aNil)) env).bind fun ds => if ds.length = 2 then f__law_outward ds else none)))) (eVar 11) [11]) (ED ps L (.give p) .un .un .un .un .un) = some (.list ((insideM ps L p).map encQ)) := by
    have hi : iLS (eOpn 1) (ED ps L (.give p) .un .un .un .un .un) = some (L.opn.map encQ) := rfl
    refine eL_ev ?_
    unfold nLc
    rw [hi, Option.bind_some, if_pos (by rw [List.length_map]; omega)]
    rw [lc_gen (fun d => [.sh (encPs ps), .ob (.ls L), .sh (.tuple (rowD (.give p))), .sh (.str (wordR (.give p))), .un, .un, .un, .un, .un, .un, .un, .sh d]) (fun d => match d with | .tuple [.str n, _] => decide (p ∈ outM ps n) | _ => false) (fun d => d)]
    · rw [List.filter_map, List.map_map]
      rfl
    · intro d m
      rfl
    · intro d m
      obtain ⟨q, mq, rfl⟩ := List.mem_map.mp m
      have hy : PyData.strOk q.1 = true := I.hk _ (List.mem_map_of_mem mq)
      have hcall := callN2_ev (env := [.sh (encPs ps), .ob (.ls L), .sh (.tuple (rowD (.give p))), .sh (.str (wordR (.give p))), .un, .un, .un, .un, .un, .un, .un, .sh (encQ q)]) (a := eVar 0) (b := e2 gIx (eVarO 11) (eC (.int 0))) (x := encPs ps) (y := .str q.1) rfl rfl (m_loutward ps I.hp I.hpl q.1 hy)
      exact ins_ev (neg := false) (l := outM ps q.1) (ixt_ev (ds := rowD (.give p)) (i := ((1 : Nat) : Int)) rfl rfl rfl) hcall hp (out_ok I.hp q.1)
    · intro d m _
      rfl
  rw [seq_asg hin]
  dsimp only [List.set]
  have hil : (insideM ps L p).length ≤ L.opn.length := List.length_filter_le ..
  have hn : eL (nLc (iLS (eVarO 10)) (tgT 2 (tgCons (tgN 4) (tgCons (tgN 9) tgNil))) (fun _ => some true) (eVar 9) [4, 9]) (ED ps L (.give p) .un .un .un .un (.sh (.list ((insideM ps L p).map encQ)))) = some (.list (((insideM ps L p).map (·.2)).map PyData.int)) := by
    have hi : iLS (eVarO 10) (ED ps L (.give p) .un .un .un .un (.sh (.list ((insideM ps L p).map encQ)))) = some ((insideM ps L p).map encQ) := rfl
    refine eL_ev ?_
    unfold nLc
    rw [hi, Option.bind_some, if_pos (by rw [List.length_map]; omega)]
    rw [lc_all (fun d => match d with | .tuple [a, b] => [.sh (encPs ps), .ob (.ls L), .sh (.tuple (rowD (.give p))), .sh (.str (wordR (.give p))), .sh a, .un, .un, .un, .un, .sh b, .sh (.list ((insideM ps L p).map encQ)), .un] | _ => []) (fun d => match d with | .tuple [a, b] => b | _ => .none)]
    · rw [List.map_map, List.map_map]
      rfl
    · intro d m
      obtain ⟨q, _, rfl⟩ := List.mem_map.mp m
      rfl
    · intro d m
      obtain ⟨q, _, rfl⟩ := List.mem_map.mp m
      rfl
  have hg : nRev (eL (nLc (iLS (eVarO 10)) (tgT 2 (tgCons (tgN 4) (tgCons (tgN 9) tgNil))) (fun _ => some true) (eVar 9) [4, 9])) (ED ps L (.give p) .un .un .un .un (.sh (.list ((insideM ps L p).map encQ)))) = some (((insideM ps L p).reverse.map (·.2)).map PyData.int) := by
    rw [nrev_ev hn, ← List.map_reverse, ← List.map_reverse]
  rw [seq_nx (givn_nx (ns := (insideM ps L p).reverse.map (·.2)) rfl hg (by rw [List.length_map, List.length_reverse]; omega))]
  dsimp only [List.set]
  have hs : nLc (iLS (eOpn 1)) (tgN 11) (tE (e2 (gInL true) (eVarO 11) (eVarO 10))) (eVar 11) [11] (ED ps { L with given := L.given ++ (insideM ps L p).reverse.map (·.2) } (.give p) .un .un .un .un (.sh (.list ((insideM ps L p).map encQ)))) = some ((L.opn.filter fun q => decide (p ∉ outM ps q.1)).map encQ) := by
    have hi : iLS (eOpn 1) (ED ps { L with given := L.given ++ (insideM ps L p).reverse.map (·.2) } (.give p) .un .un .un .un (.sh (.list ((insideM ps L p).map encQ)))) = some (L.opn.map encQ) := rfl
    unfold nLc
    rw [hi, Option.bind_some, if_pos (by rw [List.length_map]; omega)]
    rw [lc_gen (fun d => [.sh (encPs ps), .ob (.ls { L with given := L.given ++ (insideM ps L p).reverse.map (·.2) }), .sh (.tuple (rowD (.give p))), .sh (.str (wordR (.give p))), .un, .un, .un, .un, .un, .un, .sh (.list ((insideM ps L p).map encQ)), .sh d]) (fun d => match d with | .tuple [.str n, .int k] => !decide ((n, k) ∈ insideM ps L p) | _ => false) (fun d => d)]
    · rw [List.filter_map, List.map_map]
      congr 1
      show List.map encQ (List.filter (fun q => !decide ((q.1, q.2) ∈ insideM ps L p)) L.opn) = _
      congr 1
      apply List.filter_congr
      intro q m
      rw [← decide_not]
      refine decide_eq_decide.mpr (not_congr ?_)
      unfold insideM
      rw [List.mem_filter, decide_eq_true_eq]
      exact ⟨fun h => h.2, fun h => ⟨m, h⟩⟩
    · intro d m
      rfl
    · intro d m
      obtain ⟨q, mq, rfl⟩ := List.mem_map.mp m
      exact te2_ev rfl rfl (in_us (neg := true) (x := q) (l := insideM ps L p) (I.hk _ (List.mem_map_of_mem mq)) (fun y my => I.hk _ (List.mem_map_of_mem (List.mem_filter.mp my).1)))
    · intro d m _
      rfl
  exact (opnset_nx (i := 1) (L := { L with given := L.given ++ (insideM ps L p).reverse.map (·.2) }) (l := L.opn.filter fun q => decide (p ∉ outM ps q.1)) rfl hs).trans rfl
end
/-! ### the deed as a plain function of states -/
structure OkDeed (ps : List (Str × Option Str)) (L : LS) (r : PL.Row) : Prop where
  fine : Fine ps L
  tx : ∀ x ∈ textsR r, PyData.strOk x = true
  wr : wrongM ps L r = ""
open Classical in
noncomputable def dmM (L : LS) : List PyData → Option LS
  | [d0, _, d2] => (decPs d0).bind fun ps => (decR d2).bind fun r => if OkDeed ps L r then some (deedM ps L r) else none
  | _ => none
open Classical in
theorem dm_ev {ps : List (Str × Option Str)} {L : LS} {r : PL.Row} (h : OkDeed ps L r) (d : PyData) : dmM L [encPs ps, d, encR r] = some (deedM ps L r) := by
  show (decPs (encPs ps)).bind (fun ps => (decR (encR r)).bind fun r => if OkDeed ps L r then some (deedM ps L r) else none) = _
  rw [decPs_enc, Option.bind_some, decR_encR, Option.bind_some, if_pos h]
theorem orW_no {a b : Str} (h : SM.orW a b = "") : a = "" ∧ b = "" := by
  unfold SM.orW at h
  split at h
  · rename_i e
    exact ⟨e, h⟩
  · rename_i e
    exact absurd h e
theorem upM_no {L : LS} {x : Str} (h : upM L x = "") : x ∈ keysM L := by
  unfold upM at h
  split at h
  · assumption
  · exact absurd h (by decide +kernel)
theorem deed_all {ps : List (Str × Option Str)} {L : LS} {r : PL.Row} (I : OkDeed ps L r) : ∃ k4 k5 k6 k7 k10, F__law_deed [.sh (encPs ps), .ob (.ls L), .sh (.tuple (rowD r)), .un, .un, .un, .un, .un, .un, .un, .un, .un] = some (.nx (ED ps (deedM ps L r) r k4 k5 k6 k7 k10)) := by
  obtain ⟨F, tx, wr⟩ := I
  cases r with
  | open_ x => exact deed_open F x
  | lay n p z => exact deed_lay F n p z (tx p (by simp [textsR])) (upM_no wr)
  | copy n o p => exact deed_copy F n o p (tx p (by simp [textsR])) (upM_no (orW_no wr).2) (orW_no wr).1
  | same n o =>
    have h : (if (getA L.held o).isSome = true then ("" : Str) else "nothing") = "" := wr
    split at h
    · rename_i hs
      obtain ⟨i, hi⟩ := Option.isSome_iff_exists.mp hs
      exact deed_same F n o i hi
    · exact absurd h (by decide +kernel)
  | add n o => exact deed_add F n o (orW_no wr).1 (orW_no wr).2
  | tell n => exact deed_tell F n wr
  | give p => exact deed_give F p (tx p (by simp [textsR]))
  | fork k => exact deed_fork F k
  | go k => exact deed_go F k
  | end_ => exact deed_end F
theorem deed_at (ps : List (Str × Option Str)) (L : LS) (r : PL.Row) (o : Option Addr) : deedM ps { L with here := o } r = { deedM ps L r with here := o } := by
  cases r <;> (try rfl)
  · show (match getA L.held _ with | some i => _ | none => _ : LS) = { (match getA L.held _ with | some i => _ | none => L : LS) with here := o }
    split <;> rfl
  · show (match getA L.held _ with | some i => _ | none => _ : LS) = { (match getA L.held _ with | some i => _ | none => L : LS) with here := o }
    split <;> rfl
theorem wrong_at (ps : List (Str × Option Str)) (L : LS) (r : PL.Row) (o : Option Addr) : wrongM ps { L with here := o } r = wrongM ps L r := by
  cases r <;> rfl
theorem deed_math : Deeds f__law_deed dmM := by
  intro L ds L' h
  unfold dmM at h
  split at h
  · rename_i d0 d1 d2
    obtain ⟨ps, h0, h⟩ := Option.bind_eq_some_iff.mp h
    obtain ⟨r, h2, h⟩ := Option.bind_eq_some_iff.mp h
    split at h
    · rename_i I
      cases h
      refine ⟨deed_here .., fun p => ?_⟩
      have I' : OkDeed ps { L with here := some p } r := ⟨⟨I.fine.hp, I.fine.hpl, I.fine.hk, I.fine.hh, I.fine.ho, I.fine.hn⟩, I.tx, (wrong_at ..).trans I.wr⟩
      obtain ⟨k4, k5, k6, k7, k10, hF⟩ := deed_all I'
      have e0 := enc_decPs h0
      have e2 := encR_decR h2
      rw [encR_rowD] at e2
      subst e0 e2
      unfold f__law_deed fnM
      have hs : (fEnv 12 [encPs ps, d1, .tuple (rowD r)]).set 1 (.ob (.ls { L with here := some p })) = [.sh (encPs ps), .ob (.ls { L with here := some p }), .sh (.tuple (rowD r)), .un, .un, .un, .un, .un, .un, .un, .un, .un] := rfl
      rw [hs, hF]
      show (if (deedM ps { L with here := some p } r).here = some p then some (deedM ps { L with here := some p } r) else none) = _
      rw [deed_at, if_pos rfl]
    · cases h
  · cases h
end K09
namespace K09
open PySem L2 PySem.Spec PyProof.Rows PL PR
/-! ### the row that the law draws next -/
theorem up_ok (L : LS) (x : Str) : PyData.strOk (upM L x) = true := by
  unfold upM
  split <;> decide +kernel
theorem orW_ok {a b : Str} (ha : PyData.strOk a = true) (hb : PyData.strOk b = true) : PyData.strOk (SM.orW a b) = true := by
  unfold SM.orW
  split
  · exact hb
  · exact ha
theorem wrong_ok (ps : List (Str × Option Str)) (L : LS) (r : PL.Row) : PyData.strOk (wrongM ps L r) = true := by
  have h0 : PyData.strOk ("" : Str) = true := by decide +kernel
  cases r with
  | open_ x =>
    show PyData.strOk (openM ps L x) = true
    unfold openM
    split
    · decide +kernel
    · split
      · exact up_ok ..
      · exact h0
  | lay n p z => exact up_ok ..
  | copy n o p => exact orW_ok (lack_ok ..) (up_ok ..)
  | same n o =>
    show PyData.strOk (if (getA L.held o).isSome = true then ("" : Str) else "nothing") = true
    split <;> decide +kernel
  | add n o => exact orW_ok (lack_ok ..) (lack_ok ..)
  | tell n => exact lack_ok ..
  | give p => exact up_ok ..
  | fork k => exact h0
  | go k => exact h0
  | end_ =>
    show PyData.strOk (if L.opn = [] then ("" : Str) else "left") = true
    split <;> decide +kernel
def layN (nms : List Str) (L : LS) (c : Int) : PL.Row := .lay (pickS nms (c / 70)) (pickS (keysM L) (c / 10)) (c / 10 % 19 - 9)
def openN (ps : List (Str × Option Str)) (L : LS) (c : Int) : Option (Str × Option Str) := (ps.drop (c % ps.length).toNat ++ ps).find? fun q => decide (wrongM ps L (.open_ q.1) = "")
def nextM (ps : List (Str × Option Str)) (nms : List Str) (L : LS) (c : Int) : PL.Row :=
  if wordR (rowM ps nms c 0) ∉ (["fork", "go", "end"] : List Str) ∧ wrongM ps L (rowM ps nms c 0) = "" then rowM ps nms c 0
  else if (L.opn.length : Int) * 2 < ps.length + c / 10 % 2 then match openN ps L c with
    | some q => .open_ q.1
    | none => layN nms L c
  else layN nms L c
theorem pickq_ev {a b : PL.Env → Option PyData} {env : PL.Env} {l : List (Str × Int)} {i : Int} (ha : a env = some (.list (l.map encQ))) (hb : b env = some (.int i)) (h : 0 < l.length) : e2 gIx (e2 gIx a (e2 (gIC cMod (· % ·)) b (eA gLen (aCons a aNil)))) (eC (.int 0)) env = some (.str (pickS (l.map (·.1)) i)) := by
  have h1 := Int.emod_nonneg i (show (l.length : Int) ≠ 0 by omega)
  obtain ⟨n, hn⟩ := Int.eq_ofNat_of_zero_le h1
  have h2 := Int.emod_lt_of_pos i (show (0 : Int) < l.length by omega)
  have hlt : n < l.length := by omega
  have hp : pickS (l.map (·.1)) i = l[n].1 := by
    unfold pickS
    rw [List.length_map, hn, Int.toNat_natCast, List.getD_eq_getElem?_getD, List.getElem?_map, List.getElem?_eq_getElem hlt]
    rfl
  refine ixt_ev (ds := [.str l[n].1, .int l[n].2]) (i := 0) (ix_ev (ds := l.map encQ) ha (mod_ev hb (lenl_ev (ds := l.map encQ) ha) (by rw [List.length_map]; omega)) ?_) rfl ?_
  · rw [List.length_map, hn]
    refine atI_nat' ?_
    rw [List.getElem?_map, List.getElem?_eq_getElem hlt]
    rfl
  · rw [hp]
    rfl
section
variable {ps : List (Str × Option Str)} {nms : List Str} {L : LS} {c : Int}
abbrev EX (ps : List (Str × Option Str)) (nms : List Str) (L : LS) (c : Int) (r : PL.Row) (a b : Sl) : PL.Env := [.sh (.int c), .sh (encPs ps), .sh (.list (nms.map PyData.str)), .sh (lsD L), .sh (encR r), a, b]
def nextB : PL.Env → Option Out := (sIf (tE (e2 gEq (eA (fun ds => if ds.length = 3 then f__law_wrong ds else none) (aCons (eVar 1) (aCons (eVar 3) (aCons (eTup (aCons (eC (.str "open")) (aCons (eVar 5) aNil))) aNil)))) (eC (.str "")))) (sRet (eTup (aCons (eC (.str "open")) (aCons (eVar 5) aNil)))) sNext)
theorem next_go (I : Fine ps L) (r : PL.Row) : ∀ (l : List (Str × Option Str)) (a b : Sl), (∀ q ∈ l, PyData.strOk q.1 = true) → ∃ a' b', fGo (tgT 2 (tgCons (tgN 5) (tgCons (tgN 6) tgNil))) nextB (l.map encP) (EX ps nms L c r a b) = match l.find? (fun q => decide (wrongM ps L (.open_ q.1) = "")) with
    | some q => some (.rt (encR (.open_ q.1)))
    | none => some (.nx (EX ps nms L c r a' b'))
  | [], a, b, _ => ⟨a, b, rfl⟩
  | q :: l, a, b, hl => by
    have hq := hl q (List.mem_cons_self ..)
    have hw : tE (e2 gEq (eA (fun ds => if ds.length = 3 then f__law_wrong ds else none) (aCons (eVar 1) (aCons (eVar 3) (aCons (eTup (aCons (eC (.str "open")) (aCons (eVar 5) aNil))) aNil)))) (eC (.str ""))) (EX ps nms L c r (.sh (.str q.1)) (.sh (optD q.2))) = some (decide (wrongM ps L (.open_ q.1) = "")) :=
      eqz_ev (call3_ev (x := encPs ps) rfl (y := lsD L) rfl (u := encR (.open_ q.1)) rfl (m_wrong I.hp I.hpl I.hk I.hh I.ho (.open_ q.1) (fun x m => by
        simp only [textsR, List.mem_cons, List.not_mem_nil, or_false] at m
        rw [m]
        exact hq))) rfl (wrong_ok ..) (by decide +kernel)
    by_cases h : wrongM ps L (.open_ q.1) = ""
    · refine ⟨a, b, ?_⟩
      rw [List.find?_cons_of_pos (by exact decide_eq_true h)]
      show (nextB (EX ps nms L c r (.sh (.str q.1)) (.sh (optD q.2)))).bind _ = _
      have : nextB (EX ps nms L c r (.sh (.str q.1)) (.sh (optD q.2))) = some (.rt (encR (.open_ q.1))) := by
        unfold nextB
        rw [if_val hw, decide_eq_true h, if_pos rfl]
        rfl
      rw [this]
      rfl
    · obtain ⟨a', b', ih⟩ := next_go I r l (.sh (.str q.1)) (.sh (optD q.2)) (fun x m => hl x (List.mem_cons_of_mem _ m))
      refine ⟨a', b', ?_⟩
      rw [List.find?_cons_of_neg (by simp [h])]
      rw [← ih]
      rw [List.map_cons]
      refine fgo_nx (e1 := EX ps nms L c r (.sh (.str q.1)) (.sh (optD q.2))) rfl ?_
      unfold nextB
      rw [if_val hw, decide_eq_false h]
      rfl
theorem m_next (I : Fine ps L) (h1 : 0 < ps.length) (h2 : 0 < nms.length) (hl : nms.length ≤ 1000) (hn : ∀ x ∈ nms, PyData.strOk x = true) (hroot : L.opn = [] → ∃ q ∈ ps, wrongM ps L (.open_ q.1) = "") :
    f__law_next [.int c, encPs ps, .list (nms.map PyData.str), lsD L] = some (encR (nextM ps nms L c)) := by
  have hpl := I.hpl
  have ho := I.ho
  have hpok : ∀ q ∈ ps, PyData.strOk q.1 = true := fun q m => by
    have := List.all_eq_true.mp I.hp q m
    unfold okP at this
    rw [Bool.and_eq_true] at this
    exact this.1
  unfold f__law_next fnD F__law_next
  have h0 : fEnv 7 [.int c, encPs ps, .list (nms.map PyData.str), lsD L] = [.sh (.int c), .sh (encPs ps), .sh (.list (nms.map PyData.str)), .sh (lsD L), .un, .un, .un] := rfl
  have hrow : eA (fun ds => if ds.length = 4 then f__law_row ds else none) (aCons (eVar 0) (aCons (eVar 1) (aCons (eVar 2) (aCons (eC (.int 0)) aNil)))) [.sh (.int c), .sh (encPs ps), .sh (.list (nms.map PyData.str)), .sh (lsD L), .un, .un, .un] = some (encR (rowM ps nms c 0)) := by
    show (if [PyData.int c, encPs ps, .list (nms.map PyData.str), .int 0].length = 4 then f__law_row [.int c, encPs ps, .list (nms.map PyData.str), .int 0] else none) = _
    exact (if_pos rfl).trans (m_row ps nms c 0 h1 h2 (by omega))
  rw [h0, seq_asg hrow]
  dsimp only [List.set]
  unfold nextM
  generalize hr : rowM ps nms c 0 = r
  have htx : ∀ x ∈ textsR r, PyData.strOk x = true := by rw [← hr]; exact row_texts h1 h2 I.hp hn c 0
  show outD (sSeq _ _ (EX ps nms L c r .un .un)) = _
  rw [if_seq (tA_ev (int_ev (neg := true) (l := ["fork", "go", "end"]) (word_ev rfl) rfl) (fun _ => eqz_ev (call3_ev (x := encPs ps) rfl (y := lsD L) rfl (u := encR r) rfl (m_wrong I.hp I.hpl I.hk I.hh I.ho r htx)) rfl (wrong_ok ..) (by decide +kernel)))]
  by_cases hg : wordR r ∉ (["fork", "go", "end"] : List Str) ∧ wrongM ps L r = ""
  · rw [if_pos hg]
    have : ((if true = true then !decide (wordR r ∈ (["fork", "go", "end"] : List Str)) else decide (wordR r ∈ (["fork", "go", "end"] : List Str))) && decide (wrongM ps L r = "")) = true := by
      rw [if_pos rfl, decide_eq_false hg.1, decide_eq_true hg.2]
      rfl
    rw [this, if_pos rfl]
    rfl
  · rw [if_neg hg]
    have : ((if true = true then !decide (wordR r ∈ (["fork", "go", "end"] : List Str)) else decide (wordR r ∈ (["fork", "go", "end"] : List Str))) && decide (wrongM ps L r = "")) = false := by
      rw [if_pos rfl, Bool.eq_false_iff]
      intro z
      rw [Bool.and_eq_true, Bool.not_eq_true', decide_eq_false_iff_not, decide_eq_true_eq] at z
      exact hg z
    rw [this, if_neg Bool.false_ne_true, next_seq]
    have hlay : 0 < L.opn.length → ∀ a b, outD ((sSeq (sAsg (e2 gIx (e2 gIx (e2 gDg (eVar 3) (eC (.str "open"))) (e2 (gIC cMod (· % ·)) (e2 (gIC cDiv (· / ·)) (eVarO 0) (eC (.int 10))) (eA gLen (aCons (e2 gDg (eVar 3) (eC (.str "open"))) aNil)))) (eC (.int 0))) (tgN 5))
    (sRet (eTup (aCons (eC (.str "lay")) (aCons (e2 gIx (eVarO 2) (e2 (gIC cMod (· % ·)) (e2 (gIC cDiv (· / ·)) (eVarO 0) (eC (.int 70))) (eA gLen (aCons (eVarO 2) aNil)))) (aCons (eVar 5) (aCons (e2 (gI (· - ·)) (e2 (gIC cMod (· % ·)) (e2 (gIC cDiv (· / ·)) (eVarO 0) (eC (.int 10))) (eC (.int 19))) (eC (.int 9))) aNil))))))) (EX ps nms L c r a b)) = some (encR (layN nms L c)) := fun hpos a b => by
      rw [seq_asg (pickq_ev (l := L.opn) (dg_open rfl) (div_ev (i := c) rfl rfl (by omega)) hpos)]
      dsimp only [List.set]
      unfold sRet
      rw [tup_ev (acons_ev (d := .str "lay") rfl (acons_ev (pick_ev (l := nms) rfl (div_ev (i := c) rfl rfl (by omega)) h2) (acons_ev (d := .str (pickS (L.opn.map (·.1)) (c / 10))) rfl (acons_ev (sub_ev (mod_ev (div_ev (i := c) rfl rfl (by omega)) rfl (by omega)) rfl) anil_ev)))) (by show 4 ≤ 100000; omega)]
      rfl
    have hlen : eA gLen (aCons (e2 gDg (eVar 3) (eC (.str "open"))) aNil) (EX ps nms L c r .un .un) = some (.int (L.opn.length : Int)) := by
      rw [lenl_ev (dg_open rfl), List.length_map]
    have hplen : eA gLen (aCons (eVarO 1) aNil) (EX ps nms L c r .un .un) = some (.int (ps.length : Int)) := by
      rw [lenl_ev (ds := ps.map encP) rfl, List.length_map]
    rw [if_seq (lt_ev (mul_ev hlen rfl (cmul_r (by omega))) (add_ev hplen (mod_ev (div_ev (i := c) rfl rfl (by omega)) rfl (by omega))))]
    by_cases hlt : (L.opn.length : Int) * 2 < ps.length + c / 10 % 2
    · rw [decide_eq_true hlt, if_pos rfl, if_pos hlt]
      have hmn := Int.emod_nonneg c (show (ps.length : Int) ≠ 0 by omega)
      obtain ⟨n, hmn'⟩ := Int.eq_ofNat_of_zero_le hmn
      have hit : iLS (eL (nCat (eL (nSl (eVarO 1) (oSome (e2 (gIC cMod (· % ·)) (eVarO 0) (eA gLen (aCons (eVarO 1) aNil)))) oNone)) (eVarO 1))) (EX ps nms L c r .un .un) = some ((ps.drop (c % ps.length).toNat ++ ps).map encP) := by
        have hs : eL (nSl (eVarO 1) (oSome (e2 (gIC cMod (· % ·)) (eVarO 0) (eA gLen (aCons (eVarO 1) aNil)))) oNone) (EX ps nms L c r .un .un) = some (.list ((ps.drop (c % ps.length).toNat).map encP)) := by
          refine eL_ev ?_
          unfold nSl oSome
          rw [mod_ev (i := c) rfl hplen (by omega), hmn']
          show some (PL.cutD (ps.map encP) (some (n : Int)) none) = _
          rw [cutD_from, List.map_drop, Int.toNat_natCast]
        unfold iLS
        rw [show eL (nCat (eL (nSl (eVarO 1) (oSome (e2 (gIC cMod (· % ·)) (eVarO 0) (eA gLen (aCons (eVarO 1) aNil)))) oNone)) (eVarO 1)) (EX ps nms L c r .un .un) = some (.list ((ps.drop (c % ps.length).toNat ++ ps).map encP)) from by
          refine eL_ev ?_
          unfold nCat
          rw [hs, Option.bind_some]
          show (if ((ps.drop (c % ps.length).toNat).map encP).length + (ps.map encP).length ≤ 100000 then some ((ps.drop (c % ps.length).toNat).map encP ++ ps.map encP) else none) = _
          rw [if_pos (by rw [List.length_map, List.length_map, List.length_drop]; omega), List.map_append]]
        rfl
      obtain ⟨a', b', hgo⟩ := next_go (nms := nms) (c := c) I r (ps.drop (c % ps.length).toNat ++ ps) .un .un (fun q m => by
        rcases List.mem_append.mp m with m | m
        · exact hpok q (List.mem_of_mem_drop m)
        · exact hpok q m)
      have hfor : sFor (iLS (eL (nCat (eL (nSl (eVarO 1) (oSome (e2 (gIC cMod (· % ·)) (eVarO 0) (eA gLen (aCons (eVarO 1) aNil)))) oNone)) (eVarO 1)))) (tgT 2 (tgCons (tgN 5) (tgCons (tgN 6) tgNil))) nextB (EX ps nms L c r .un .un) = match openN ps L c with
          | some q => some (.rt (encR (.open_ q.1)))
          | none => some (.nx (EX ps nms L c r a' b')) := by
        unfold sFor
        rw [hit, Option.bind_some, hgo]
        rfl
      cases hf : openN ps L c with
      | some q =>
        rw [hf] at hfor
        refine Eq.trans (congrArg outD (seq_rt hfor)) ?_
        rfl
      | none =>
        rw [hf] at hfor
        refine Eq.trans (congrArg outD (seq_nx hfor)) ?_
        refine hlay ?_ a' b'
        refine List.length_pos_iff.mpr fun e => ?_
        obtain ⟨q, mq, hq⟩ := hroot e
        unfold openN at hf
        have := List.find?_eq_none.mp hf q (List.mem_append_right _ mq)
        exact this (decide_eq_true hq)
    · rw [decide_eq_false hlt, if_neg Bool.false_ne_true, if_neg hlt, next_seq]
      exact hlay (by omega) .un .un
end
/-! ### the Store and the law's own state, side by side -/
structure Inv5 (ps : List (Str × Option Str)) (S : SM) (L : LS) (t : Nat) : Prop where
  ch : S.chains = (SM0 ps).chains
  opn : L.opn = S.opens
  many : L.many = S.opened
  held : L.held = S.held
  told : L.told = S.told
  given : L.given = S.given
  worth : L.worth = S.vals.map fun v => (v.2.2, v.2.1)
  nd : (S.opens.map (·.1)).Nodup
  keys : ∀ q ∈ S.opens, q.1 ∈ ps.map (·.1)
  nums : ∀ q ∈ S.opens, q.2 < S.opened
  ndn : ∀ q ∈ S.opens, ∀ q' ∈ S.opens, q.2 = q'.2 → q = q'
  vnum : ∀ v ∈ S.vals, v.2.1 < S.opened
  own : ∀ q ∈ S.opens, ∀ v ∈ S.vals, q.2 = v.2.1 → q.1 = v.1
  he : ∀ q ∈ S.held, q.2 < S.vals.length
  sz : S.given.length + S.opens.length ≤ t ∧ S.held.length ≤ t ∧ S.vals.length ≤ t ∧ S.told.length ≤ t
section
variable {ps : List (Str × Option Str)} {S : SM} {L : LS} {t : Nat}
theorem inv5_start (ps : List (Str × Option Str)) : Inv5 ps (SM0 ps) ls0 0 := ⟨rfl, rfl, rfl, rfl, rfl, rfl, rfl, List.nodup_nil, (fun q m => nomatch m), (fun q m => nomatch m), (fun q m => nomatch m), (fun q m => nomatch m), (fun q m => nomatch m), (fun q m => nomatch m), ⟨Nat.le_refl _, Nat.le_refl _, Nat.le_refl _, Nat.le_refl _⟩⟩
theorem up_mem (x : Str) : S.isUp x = decide (x ∈ S.opens.map (·.1)) := by
  unfold SM.isUp
  rw [← any_get, Bool.eq_iff_iff, List.any_eq_true, decide_eq_true_eq, List.mem_map]
  simp only [decide_eq_true_eq]
theorem get_chain (I : Inv5 ps S L t) (nd : (ps.map (·.1)).Nodup) {x : Str} (hx : x ∈ ps.map (·.1)) : getA S.chains x = some (outM ps x) := by
  obtain ⟨q, mq, rfl⟩ := List.mem_map.mp hx
  rw [I.ch]
  refine get_of_mem' (q := (q.1, outM ps q.1)) ?_ ?_
  · show ((ps.map fun q => (q.1, outM ps q.1)).map (·.1)).Nodup
    rw [List.map_map]
    exact nd
  · exact List.mem_map.mpr ⟨q, mq, rfl⟩
theorem keys_eq (I : Inv5 ps S L t) : keysM L = S.opens.map (·.1) := by
  unfold keysM
  rw [I.opn]
theorem up_eq (I : Inv5 ps S L t) (x : Str) : upM L x = S.wPlot x := by
  unfold upM SM.wPlot
  rw [keys_eq I, up_mem]
  by_cases h : x ∈ S.opens.map (·.1)
  · rw [if_pos h, if_pos (decide_eq_true h)]
  · rw [if_neg h, if_neg (by rw [decide_eq_false h]; exact Bool.false_ne_true)]
theorem lack_eq (I : Inv5 ps S L t) (x : Str) : lackM L x = S.wName x := by
  unfold lackM SM.wName SM.valOf
  rw [I.held]
  cases hg : getA S.held x with
  | none => rfl
  | some i =>
    rw [Option.bind_some]
    simp only
    rw [I.worth, List.getElem?_map]
    cases hv : S.vals[i]? with
    | none => exact absurd (I.he _ (mem_of_get hg)) (by rw [List.getElem?_eq_none_iff] at hv; show ¬ i < _; omega)
    | some v =>
      have hm := List.mem_of_getElem? hv
      simp only [Option.map_some]
      rw [I.opn]
      have : v.2.1 ∈ S.opens.map (·.2) ↔ getA S.opens v.1 = some v.2.1 := by
        constructor
        · intro m
          obtain ⟨q, mq, e⟩ := List.mem_map.mp m
          rw [← I.own q mq v hm e, get_of_mem' I.nd mq, e]
        · intro g
          exact List.mem_map.mpr ⟨_, mem_of_get g, rfl⟩
      by_cases h : getA S.opens v.1 = some v.2.1
      · rw [if_pos h, if_pos (this.mpr h)]
      · rw [if_neg h, if_neg (fun z => h (this.mp z))]
theorem val_eq (I : Inv5 ps S L t) (x : Str) : valM L x = S.numOf x := by
  unfold valM SM.numOf SM.valOf
  rw [I.held]
  cases hg : getA S.held x with
  | none => rfl
  | some i =>
    rw [Option.bind_some]
    simp only
    rw [I.worth, List.getElem?_map]
    cases hv : S.vals[i]? <;> rfl
theorem wrong_eq (I : Inv5 ps S L t) (nd : (ps.map (·.1)).Nodup) (r : PL.Row) (hx : ∀ x, r = .open_ x → x ∈ ps.map (·.1)) : wrongM ps L r = S.wrong r := by
  cases r with
  | open_ x =>
    show openM ps L x = S.wOpen x
    unfold openM SM.wOpen
    rw [keys_eq I, up_mem, get_chain I nd (hx x rfl)]
    by_cases h : x ∈ S.opens.map (·.1)
    · rw [if_pos h, if_pos (decide_eq_true h)]
    · rw [if_neg h, if_neg (by rw [decide_eq_false h]; exact Bool.false_ne_true)]
      cases outM ps x with
      | nil => rfl
      | cons a l => cases l with
        | nil => rfl
        | cons c l => exact up_eq I c
  | lay n p z => exact up_eq I p
  | copy n o p =>
    show SM.orW _ _ = SM.orW _ _
    rw [up_eq I, lack_eq I]
  | same n o =>
    show (if (getA L.held o).isSome = true then ("" : Str) else "nothing") = S.wHolder o
    unfold SM.wHolder
    rw [I.held]
  | add n o =>
    show SM.orW _ _ = SM.orW _ _
    rw [lack_eq I, lack_eq I]
  | tell n => exact lack_eq I n
  | give p => exact up_eq I p
  | fork k => rfl
  | go k => rfl
  | end_ =>
    show (if L.opn = [] then ("" : Str) else "left") = (if S.opens = [] then ("" : Str) else "left")
    rw [I.opn]
theorem Inv5.later (I : Inv5 ps S L t) : Inv5 ps S L (t + 1) := { I with sz := ⟨by have := I.sz; omega, by have := I.sz; omega, by have := I.sz; omega, by have := I.sz; omega⟩ }
theorem modify_map {α β : Type} (f : α → α) (g : α → β) (h : β → β) (e : ∀ a, g (f a) = h (g a)) : ∀ (l : List α) (i : Nat), (l.modify i f).map g = (l.map g).modify i h
  | [], i => by cases i <;> rfl
  | a :: l, 0 => by
    show g (f a) :: l.map g = h (g a) :: l.map g
    rw [e]
  | a :: l, i + 1 => by
    show g a :: (l.modify i f).map g = g a :: (l.map g).modify i h
    rw [modify_map f g h e l i]
theorem mem_modify {α : Type} (f : α → α) : ∀ (l : List α) (i : Nat) (v : α), v ∈ l.modify i f → v ∈ l ∨ ∃ w ∈ l, v = f w
  | [], i, v, m => by cases i <;> cases m
  | a :: l, 0, v, m => by
    have m : v ∈ f a :: l := m
    rcases List.mem_cons.mp m with e | m
    · exact .inr ⟨a, List.mem_cons_self .., e⟩
    · exact .inl (List.mem_cons_of_mem _ m)
  | a :: l, i + 1, v, m => by
    have m : v ∈ a :: l.modify i f := m
    rcases List.mem_cons.mp m with e | m
    · exact .inl (by rw [e]; exact List.mem_cons_self ..)
    · rcases mem_modify f l i v m with h | ⟨w, h1, h2⟩
      · exact .inl (List.mem_cons_of_mem _ h)
      · exact .inr ⟨w, List.mem_cons_of_mem _ h1, h2⟩
theorem filt_add {α : Type} (p : α → Bool) : ∀ l : List α, l.length = (l.filter p).length + (l.filter fun a => !p a).length
  | [] => rfl
  | a :: l => by
    have ih := filt_add p l
    cases h : p a with
    | true =>
      rw [List.filter_cons_of_pos h, List.filter_cons_of_neg (by simp [h]), List.length_cons, List.length_cons]
      omega
    | false =>
      rw [List.filter_cons_of_neg (by simp [h]), List.filter_cons_of_pos (by simp [h]), List.length_cons, List.length_cons]
      omega
theorem inv5_put (I : Inv5 ps S L t) (n p : Str) (z : Int) (h : upM L p = "") : Inv5 ps (S.put n p z) (layM L n p z) (t + 1) := by
  have hup := upM_no h
  rw [keys_eq I] at hup
  obtain ⟨q, mq, rfl⟩ := List.mem_map.mp hup
  have hg := get_of_mem' I.nd mq
  obtain ⟨s1, s2, s3, s4⟩ := I.sz
  have hlen : L.worth.length = S.vals.length := by rw [I.worth, List.length_map]
  have hput : S.put n q.1 z = { S with held := putA S.held n S.vals.length, vals := S.vals ++ [(q.1, q.2, z)] } := by
    unfold SM.put
    rw [hg]
    rfl
  have hlay : layM L n q.1 z = { L with held := putA S.held n S.vals.length, worth := (S.vals ++ [(q.1, q.2, z)]).map fun v => (v.2.2, v.2.1) } := by
    unfold layM
    rw [I.held, I.opn, hg, hlen, I.worth, List.map_append]
    rfl
  rw [hput, hlay]
  refine ⟨I.ch, I.opn, I.many, rfl, I.told, I.given, rfl, I.nd, I.keys, I.nums, I.ndn, fun v m => ?_, fun a ma v m e => ?_, fun a ma => ?_, ⟨by show S.given.length + S.opens.length ≤ _; omega, ?_, ?_, by show S.told.length ≤ _; omega⟩⟩
  · rcases List.mem_append.mp m with m | m
    · exact I.vnum v m
    · rw [List.mem_singleton] at m
      rw [m]
      exact I.nums q mq
  · rcases List.mem_append.mp m with m | m
    · exact I.own a ma v m e
    · rw [List.mem_singleton] at m
      subst m
      rw [I.ndn a ma q mq e]
  · show a.2 < (S.vals ++ [(q.1, q.2, z)]).length
    rw [List.length_append]
    show a.2 < S.vals.length + 1
    have ma : a ∈ putA S.held n S.vals.length := ma
    unfold putA at ma
    split at ma
    · obtain ⟨b, mb, rfl⟩ := List.mem_map.mp ma
      have := I.he b mb
      split
      · exact Nat.lt_succ_self _
      · omega
    · rcases List.mem_append.mp ma with ma | ma
      · have := I.he a ma
        omega
      · rw [List.mem_singleton] at ma
        rw [ma]
        exact Nat.lt_succ_self _
  · have := putA_len S.held n S.vals.length
    show (putA S.held n S.vals.length).length ≤ _
    omega
  · show (S.vals ++ [(q.1, q.2, z)]).length ≤ _
    rw [List.length_append]
    show S.vals.length + 1 ≤ _
    omega
theorem inv5_deed (I : Inv5 ps S L t) (nd : (ps.map (·.1)).Nodup) (r : PL.Row) (hx : ∀ x, r = .open_ x → x ∈ ps.map (·.1)) (hw : wrongM ps L r = "") : Inv5 ps (S.change r) (deedM ps L r) (t + 1) := by
  obtain ⟨s1, s2, s3, s4⟩ := I.sz
  cases r with
  | open_ x =>
    have hn : x ∉ S.opens.map (·.1) := fun m => by
      have h : openM ps L x = "" := hw
      unfold openM at h
      rw [keys_eq I, if_pos m] at h
      exact absurd h (by decide +kernel)
    have hp : putA S.opens x S.opened = S.opens ++ [(x, S.opened)] := by
      unfold putA
      rw [if_neg]
      intro z
      obtain ⟨q, mq, e⟩ := List.any_eq_true.mp z
      exact hn (List.mem_map.mpr ⟨q, mq, of_decide_eq_true e⟩)
    have hc : S.change (.open_ x) = { S with opens := S.opens ++ [(x, S.opened)], opened := S.opened + 1 } := by
      show { S with opens := putA S.opens x S.opened, opened := S.opened + 1 } = _
      rw [hp]
    have hd : deedM ps L (.open_ x) = { L with opn := S.opens ++ [(x, S.opened)], many := S.opened + 1 } := by
      show { L with opn := L.opn ++ [(x, L.many)], many := L.many + 1 } = _
      rw [I.opn, I.many]
    rw [hc, hd]
    refine ⟨I.ch, rfl, rfl, I.held, I.told, I.given, I.worth, ?_, fun q m => ?_, fun q m => ?_, fun q m q' m' e => ?_, fun v m => ?_, fun q m v mv e => ?_, I.he, ⟨?_, by show S.held.length ≤ _; omega, by show S.vals.length ≤ _; omega, by show S.told.length ≤ _; omega⟩⟩
    · show ((S.opens ++ [(x, S.opened)]).map (·.1)).Nodup
      rw [List.map_append, List.nodup_append]
      refine ⟨I.nd, by simp, fun a ha b hb => ?_⟩
      simp only [List.map_cons, List.map_nil, List.mem_singleton] at hb
      rw [hb]
      exact fun e => hn (e ▸ ha)
    · rcases List.mem_append.mp m with m | m
      · exact I.keys q m
      · rw [List.mem_singleton] at m
        rw [m]
        exact hx x rfl
    · show q.2 < S.opened + 1
      rcases List.mem_append.mp m with m | m
      · have := I.nums q m
        omega
      · rw [List.mem_singleton] at m
        rw [m]
        show S.opened < _
        omega
    · rcases List.mem_append.mp m with m | m <;> rcases List.mem_append.mp m' with m' | m'
      · exact I.ndn q m q' m' e
      · rw [List.mem_singleton] at m'
        have h1 := I.nums q m
        have h2 : q'.2 = S.opened := by rw [m']
        omega
      · rw [List.mem_singleton] at m
        have h1 := I.nums q' m'
        have h2 : q.2 = S.opened := by rw [m]
        omega
      · rw [List.mem_singleton] at m m'
        rw [m, m']
    · show v.2.1 < S.opened + 1
      have := I.vnum v m
      omega
    · rcases List.mem_append.mp m with m | m
      · exact I.own q m v mv e
      · rw [List.mem_singleton] at m
        have h1 := I.vnum v mv
        have h2 : q.2 = S.opened := by rw [m]
        omega
    · show S.given.length + (S.opens ++ [(x, S.opened)]).length ≤ _
      rw [List.length_append]
      show S.given.length + (S.opens.length + 1) ≤ _
      omega
  | lay n p z => exact inv5_put I n p z hw
  | copy n o p =>
    show Inv5 ps (S.put n p (S.numOf o)) (layM L n p (valM L o)) (t + 1)
    rw [val_eq I]
    exact inv5_put I n p _ (orW_no hw).2
  | same n o =>
    show Inv5 ps (match getA S.held o with | some i => { S with held := putA S.held n i } | none => S) (match getA L.held o with | some i => { L with held := putA L.held n i } | none => L) (t + 1)
    rw [I.held]
    cases hg : getA S.held o with
    | none => exact I.later
    | some i =>
      refine ⟨I.ch, I.opn, I.many, rfl, I.told, I.given, I.worth, I.nd, I.keys, I.nums, I.ndn, I.vnum, I.own, fun a ma => ?_, ⟨by show S.given.length + S.opens.length ≤ _; omega, ?_, by show S.vals.length ≤ _; omega, by show S.told.length ≤ _; omega⟩⟩
      · have hi := I.he _ (mem_of_get hg)
        show a.2 < S.vals.length
        have ma : a ∈ putA S.held n i := ma
        unfold putA at ma
        split at ma
        · obtain ⟨b, mb, rfl⟩ := List.mem_map.mp ma
          have := I.he b mb
          split
          · exact hi
          · omega
        · rcases List.mem_append.mp ma with ma | ma
          · exact I.he a ma
          · rw [List.mem_singleton] at ma
            rw [ma]
            exact hi
      · have := putA_len S.held n i
        show (putA S.held n i).length ≤ _
        omega
  | add n o =>
    show Inv5 ps (match getA S.held n with | some i => { S with vals := S.vals.modify i fun v => (v.1, v.2.1, v.2.2 + S.numOf o) } | none => S) (match getA L.held n with | some i => { L with worth := L.worth.modify i fun q => (q.1 + valM L o, q.2) } | none => L) (t + 1)
    rw [I.held, val_eq I]
    cases hg : getA S.held n with
    | none => exact I.later
    | some i =>
      have hm : ∀ v, v ∈ S.vals.modify i (fun v => (v.1, v.2.1, v.2.2 + S.numOf o)) → ∃ w ∈ S.vals, w.1 = v.1 ∧ w.2.1 = v.2.1 := fun v m => by
        rcases mem_modify _ _ _ _ m with h | ⟨w, h1, h2⟩
        · exact ⟨v, h, rfl, rfl⟩
        · exact ⟨w, h1, by rw [h2], by rw [h2]⟩
      refine ⟨I.ch, I.opn, I.many, rfl, I.told, I.given, ?_, I.nd, I.keys, I.nums, I.ndn, fun v m => ?_, fun q m v mv e => ?_, fun a ma => ?_, ⟨by show S.given.length + S.opens.length ≤ _; omega, by show S.held.length ≤ _; omega, ?_, by show S.told.length ≤ _; omega⟩⟩
      · show L.worth.modify i _ = (S.vals.modify i _).map _
        rw [I.worth]
        exact (modify_map (fun v : Str × Int × Int => (v.1, v.2.1, v.2.2 + S.numOf o)) (fun v => (v.2.2, v.2.1)) (fun q : Int × Int => (q.1 + S.numOf o, q.2)) (fun a => rfl) _ _).symm
      · obtain ⟨w, h1, h2, h3⟩ := hm v m
        rw [← h3]
        exact I.vnum w h1
      · obtain ⟨w, h1, h2, h3⟩ := hm v mv
        rw [← h2]
        exact I.own q m w h1 (e.trans h3.symm)
      · show a.2 < (S.vals.modify i _).length
        rw [List.length_modify]
        exact I.he a ma
      · show (S.vals.modify i _).length ≤ _
        rw [List.length_modify]
        omega
  | tell n =>
    show Inv5 ps { S with told := S.told ++ [S.numOf n] } { L with told := L.told ++ [valM L n] } (t + 1)
    rw [I.told, val_eq I]
    refine ⟨I.ch, I.opn, I.many, I.held, rfl, I.given, I.worth, I.nd, I.keys, I.nums, I.ndn, I.vnum, I.own, I.he, ⟨by show S.given.length + S.opens.length ≤ _; omega, by show S.held.length ≤ _; omega, by show S.vals.length ≤ _; omega, ?_⟩⟩
    show (S.told ++ [S.numOf n]).length ≤ _
    rw [List.length_append]
    show S.told.length + 1 ≤ _
    omega
  | give p =>
    have hco : ∀ q ∈ S.opens, S.chainOf q.1 = outM ps q.1 := fun q m => by
      unfold SM.chainOf
      rw [get_chain I nd (I.keys q m)]
      rfl
    have h1 : insideM ps L p = S.within p := by
      unfold insideM SM.within
      rw [I.opn]
      exact List.filter_congr fun q m => by rw [hco q m]
    have h2 : (L.opn.filter fun q => decide (p ∉ outM ps q.1)) = S.opens.filter fun q => decide (p ∉ S.chainOf q.1) := by
      rw [I.opn]
      exact List.filter_congr fun q m => by rw [hco q m]
    show Inv5 ps { S with given := S.given ++ (S.within p).reverse.map (·.2), opens := S.opens.filter fun q => decide (p ∉ S.chainOf q.1) } { L with given := L.given ++ (insideM ps L p).reverse.map (·.2), opn := L.opn.filter fun q => decide (p ∉ outM ps q.1) } (t + 1)
    rw [h1, h2, I.given]
    have hsub : ∀ q, q ∈ (S.opens.filter fun q => decide (p ∉ S.chainOf q.1)) → q ∈ S.opens := fun q m => (List.mem_filter.mp m).1
    refine ⟨I.ch, rfl, I.many, I.held, I.told, rfl, I.worth, ?_, fun q m => I.keys q (hsub q m), fun q m => I.nums q (hsub q m), fun q m q' m' e => I.ndn q (hsub q m) q' (hsub q' m') e, I.vnum, fun q m v mv e => I.own q (hsub q m) v mv e, I.he, ⟨?_, by show S.held.length ≤ _; omega, by show S.vals.length ≤ _; omega, by show S.told.length ≤ _; omega⟩⟩
    · exact I.nd.sublist (List.Sublist.map _ (List.filter_sublist ..))
    · show (S.given ++ (S.within p).reverse.map (·.2)).length + (S.opens.filter fun q => decide (p ∉ S.chainOf q.1)).length ≤ _
      rw [List.length_append, List.length_map, List.length_reverse]
      unfold SM.within
      have := filt_add (fun q : Str × Int => decide (p ∈ S.chainOf q.1)) S.opens
      have e : (S.opens.filter fun q => decide (p ∉ S.chainOf q.1)) = S.opens.filter fun q => !decide (p ∈ S.chainOf q.1) := List.filter_congr fun q _ => by rw [decide_not]
      rw [e]
      omega
  | fork k => exact I.later
  | go k => exact I.later
  | end_ => exact I.later
def actM (ps : List (Str × Option Str)) (L : LS) (r : PL.Row) : LS := if wrongM ps L r = "" then deedM ps L r else L
theorem inv5_act (I : Inv5 ps S L t) (nd : (ps.map (·.1)).Nodup) (r : PL.Row) (hx : ∀ x, r = .open_ x → x ∈ ps.map (·.1)) : Inv5 ps (S.act r).2 (actM ps L r) (t + 1) := by
  have h := wrong_eq I nd r hx
  unfold SM.act actM
  rw [← h]
  simp only
  split
  · rename_i hw
    exact inv5_deed I nd r hx hw
  · exact I.later
theorem fine5 (I : Inv5 ps S L t) (ht : t ≤ 1000) (hp : ps.all okP = true) (hl : ps.length ≤ 1000) : Fine ps L := by
  obtain ⟨s1, s2, s3, s4⟩ := I.sz
  refine ⟨hp, hl, fun y m => ?_, fun q m => ?_, ?_, ?_, ?_, ?_, ?_⟩
  · rw [keys_eq I] at m
    obtain ⟨q, mq, rfl⟩ := List.mem_map.mp m
    obtain ⟨p, mp, e⟩ := List.mem_map.mp (I.keys q mq)
    have := List.all_eq_true.mp hp p mp
    unfold okP at this
    rw [Bool.and_eq_true] at this
    rw [← e]
    exact this.1
  · rw [I.worth, List.length_map]
    rw [I.held] at m
    exact I.he q m
  · rw [I.opn]; omega
  · rw [I.held]; omega
  · rw [I.worth, List.length_map]; omega
  · rw [I.told]; omega
  · rw [I.given]; omega
end
end K09
namespace K09
open PySem L2 PySem.Spec PyProof.Rows PL PR
section
variable {ps : List (Str × Option Str)}
theorem m_wanted_plot (G : PGood ps) (r : PL.Row) (hr : RowOf ps r) : f_wanted_plot [encPs ps, encR r] = some (optD (wantP ps r)) := by
  unfold f_wanted_plot fnD F_wanted_plot
  have h0 : fEnv 3 [encPs ps, encR r] = [.sh (encPs ps), .sh (encR r), .un] := rfl
  rw [h0, seq_asg (word_ev (r := r) rfl)]
  dsimp only [List.set]
  have W : ∀ j z, wtab j = z → j < 10 → tE (e2 gEq (eVarO 2) (eC (.str z))) [.sh (encPs ps), .sh (encR r), .sh (.str (wordR r))] = some (decide (kindR r = j)) := fun j z hz hj => weq_ev j rfl hz hj
  cases r with
  | open_ x =>
    rw [rl_yes (W 0 "open" rfl (by decide))]
    obtain ⟨q, mq, e, hg⟩ := get_mem G.nd (hr.2 x rfl)
    have hd : e2 gDg (eA gDict (aCons (eVar 0) aNil)) (e2 gIx (eVarO 1) (eC (.int 1))) [.sh (encPs ps), .sh (encR (.open_ x)), .sh (.str (wordR (.open_ x)))] = some (optD q.2) := by
      unfold e2
      rw [dict_ev (ps := ps) rfl G.nd]
      show lookP (kvP (ps.map (·.1)) (ps.map fun q => optD q.2)) x = _
      rw [look_ps, hg]
      rfl
    rw [rt_ev hd]
    show some (optD q.2) = some (optD ((getA ps x).getD none))
    rw [hg]
    rfl
  | lay n p z =>
    rw [rl_no (W 0 "open" rfl (by decide))]
    rw [rl_no (W 2 "copy" rfl (by decide))]
    rw [rl_yes (W 1 "lay" rfl (by decide))]
    rfl
  | copy n o p =>
    rw [rl_no (W 0 "open" rfl (by decide))]
    rw [rl_yes (W 2 "copy" rfl (by decide))]
    rfl
  | same n o =>
    rw [rl_no (W 0 "open" rfl (by decide))]
    rw [rl_no (W 2 "copy" rfl (by decide))]
    rw [rl_no (W 1 "lay" rfl (by decide))]
    rw [rl_no (W 6 "give" rfl (by decide))]
    rfl
  | add n o =>
    rw [rl_no (W 0 "open" rfl (by decide))]
    rw [rl_no (W 2 "copy" rfl (by decide))]
    rw [rl_no (W 1 "lay" rfl (by decide))]
    rw [rl_no (W 6 "give" rfl (by decide))]
    rfl
  | tell n =>
    rw [rl_no (W 0 "open" rfl (by decide))]
    rw [rl_no (W 2 "copy" rfl (by decide))]
    rw [rl_no (W 1 "lay" rfl (by decide))]
    rw [rl_no (W 6 "give" rfl (by decide))]
    rfl
  | give p =>
    rw [rl_no (W 0 "open" rfl (by decide))]
    rw [rl_no (W 2 "copy" rfl (by decide))]
    rw [rl_no (W 1 "lay" rfl (by decide))]
    rw [rl_yes (W 6 "give" rfl (by decide))]
    rfl
  | fork k =>
    rw [rl_no (W 0 "open" rfl (by decide))]
    rw [rl_no (W 2 "copy" rfl (by decide))]
    rw [rl_no (W 1 "lay" rfl (by decide))]
    rw [rl_no (W 6 "give" rfl (by decide))]
    rfl
  | go k =>
    rw [rl_no (W 0 "open" rfl (by decide))]
    rw [rl_no (W 2 "copy" rfl (by decide))]
    rw [rl_no (W 1 "lay" rfl (by decide))]
    rw [rl_no (W 6 "give" rfl (by decide))]
    rfl
  | end_ =>
    rw [rl_no (W 0 "open" rfl (by decide))]
    rw [rl_no (W 2 "copy" rfl (by decide))]
    rw [rl_no (W 1 "lay" rfl (by decide))]
    rw [rl_no (W 6 "give" rfl (by decide))]
    rfl
theorem m_wanted_names (r : PL.Row) : f_wanted_names [encR r] = some (.tuple ((wantN r).map PyData.str)) := by
  unfold f_wanted_names fnD F_wanted_names
  have h0 : fEnv 2 [encR r] = [.sh (encR r), .un] := rfl
  rw [h0, seq_asg (word_ev (r := r) rfl)]
  dsimp only [List.set]
  have W : ∀ j z, wtab j = z → j < 10 → tE (e2 gEq (eVarO 1) (eC (.str z))) [.sh (encR r), .sh (.str (wordR r))] = some (decide (kindR r = j)) := fun j z hz hj => weq_ev j rfl hz hj
  cases r with
  | open_ x =>
    rw [rl_no (tO_ev (W 2 "copy" rfl (by decide)) (fun _ => (W 3 "same" rfl (by decide))))]
    rw [rl_no (tO_ev (W 4 "add" rfl (by decide)) (fun _ => (W 5 "tell" rfl (by decide))))]
    rfl
  | lay n p z =>
    rw [rl_no (tO_ev (W 2 "copy" rfl (by decide)) (fun _ => (W 3 "same" rfl (by decide))))]
    rw [rl_no (tO_ev (W 4 "add" rfl (by decide)) (fun _ => (W 5 "tell" rfl (by decide))))]
    rfl
  | copy n o p =>
    rw [rl_yes (tO_ev (W 2 "copy" rfl (by decide)) (fun _ => (W 3 "same" rfl (by decide))))]
    rfl
  | same n o =>
    rw [rl_yes (tO_ev (W 2 "copy" rfl (by decide)) (fun _ => (W 3 "same" rfl (by decide))))]
    rfl
  | add n o =>
    rw [rl_no (tO_ev (W 2 "copy" rfl (by decide)) (fun _ => (W 3 "same" rfl (by decide))))]
    rw [rl_yes (tO_ev (W 4 "add" rfl (by decide)) (fun _ => (W 5 "tell" rfl (by decide))))]
    rfl
  | tell n =>
    rw [rl_no (tO_ev (W 2 "copy" rfl (by decide)) (fun _ => (W 3 "same" rfl (by decide))))]
    rw [rl_yes (tO_ev (W 4 "add" rfl (by decide)) (fun _ => (W 5 "tell" rfl (by decide))))]
    rfl
  | give p =>
    rw [rl_no (tO_ev (W 2 "copy" rfl (by decide)) (fun _ => (W 3 "same" rfl (by decide))))]
    rw [rl_no (tO_ev (W 4 "add" rfl (by decide)) (fun _ => (W 5 "tell" rfl (by decide))))]
    rfl
  | fork k =>
    rw [rl_no (tO_ev (W 2 "copy" rfl (by decide)) (fun _ => (W 3 "same" rfl (by decide))))]
    rw [rl_no (tO_ev (W 4 "add" rfl (by decide)) (fun _ => (W 5 "tell" rfl (by decide))))]
    rfl
  | go k =>
    rw [rl_no (tO_ev (W 2 "copy" rfl (by decide)) (fun _ => (W 3 "same" rfl (by decide))))]
    rw [rl_no (tO_ev (W 4 "add" rfl (by decide)) (fun _ => (W 5 "tell" rfl (by decide))))]
    rfl
  | end_ =>
    rw [rl_no (tO_ev (W 2 "copy" rfl (by decide)) (fun _ => (W 3 "same" rfl (by decide))))]
    rw [rl_no (tO_ev (W 4 "add" rfl (by decide)) (fun _ => (W 5 "tell" rfl (by decide))))]
    rfl
theorem m_wrong_by_open (r : PL.Row) (hr : ∀ x ∈ textsR r, PyData.strOk x = true) (x : Str) (hx : PyData.strOk x = true) : f_wrong_by_open [encR r, .str x] = some (.str (wbM ps r (.plot x true))) := by
  unfold f_wrong_by_open fnD F_wrong_by_open
  have h0 : fEnv 2 [encR r, .str x] = [.sh (encR r), .sh (.str x)] := rfl
  rw [h0]
  have h1 : tE (e2 gEq (e2 gIx (eVarO 0) (eC (.int 0))) (eC (.str "end"))) [.sh (encR r), .sh (.str x)] = some (decide (kindR r = 9)) := weq_ev 9 (word_ev rfl)
  have h2 : tE (e2 gEq (eVarO 0) (eTup (aCons (eC (.str "open")) (aCons (eVar 1) aNil)))) [.sh (encR r), .sh (.str x)] = some (decide (r = .open_ x)) := by
    refine te2r_ev (y := encR (.open_ x)) rfl rfl ?_
    show (if SeqAt.shaped (encR r) && SeqAt.shaped (encR (.open_ x)) then some (PyData.bool (PyData.eqv (encR r) (encR (.open_ x)))) else none) = _
    rw [(fit_row hr).sh (by omega), (fit_row (r := .open_ x) (fun y m => by
      simp only [textsR, List.mem_cons, List.not_mem_nil, or_false] at m
      rw [m]
      exact hx)).sh (by omega)]
    show some (PyData.bool (PyData.eqv (encR r) (encR (.open_ x)))) = _
    congr 2
    rw [encR_rowD, encR_rowD]
    show PyData.eqvAll (rowD r) (rowD (.open_ x)) = _
    have hw : PyData.eqv (.str (wordR r)) (.str (wtab 0)) = decide (kindR r = 0) := by
      rw [eqv_str]
      exact weq r (by decide)
    cases r with
    | open_ y =>
      show (PyData.eqv (.str "open") (.str "open") && (PyData.eqv (.str y) (.str x) && true)) = _
      rw [eqv_str, eqv_str, Bool.and_true, decide_eq_true rfl, Bool.true_and]
      exact decide_eq_decide.mpr ⟨fun h => by rw [h], fun h => by cases h; rfl⟩
    | lay n p z => exact (congrArg (· && _) hw).trans (decide_eq_false (fun z => by cases z)).symm
    | copy n o p => exact (congrArg (· && _) hw).trans (decide_eq_false (fun z => by cases z)).symm
    | same n o => exact (congrArg (· && _) hw).trans (decide_eq_false (fun z => by cases z)).symm
    | add n o => exact (congrArg (· && _) hw).trans (decide_eq_false (fun z => by cases z)).symm
    | tell n => exact (congrArg (· && _) hw).trans (decide_eq_false (fun z => by cases z)).symm
    | give p => exact (congrArg (· && _) hw).trans (decide_eq_false (fun z => by cases z)).symm
    | fork k => exact (congrArg (· && _) hw).trans (decide_eq_false (fun z => by cases z)).symm
    | go k => exact (congrArg (· && _) hw).trans (decide_eq_false (fun z => by cases z)).symm
    | end_ => exact (congrArg (· && _) hw).trans (decide_eq_false (fun z => by cases z)).symm
  rw [wbM_up]
  by_cases q1 : kindR r = 9
  · rw [decide_eq_true q1] at h1
    rw [rl_yes h1, if_pos q1]
    rfl
  · rw [decide_eq_false q1] at h1
    rw [rl_no h1, if_neg q1]
    by_cases q2 : r = .open_ x
    · rw [decide_eq_true q2] at h2
      rw [rl_yes h2, if_pos q2]
      rfl
    · rw [decide_eq_false q2] at h2
      rw [rl_no h2, if_neg q2]
      rfl
theorem m_wrong_by_name (r : PL.Row) (x : Str) (w : Option Str) (hw : ∀ z, w = some z → PyData.strOk z = true) : f_wrong_by_name [encR r, .str x, optD w] = some (.str (wbM ps r (.name x w))) := by
  unfold f_wrong_by_name fnD F_wrong_by_name
  have h0 : fEnv 3 [encR r, .str x, optD w] = [.sh (encR r), .sh (.str x), .sh (optD w)] := rfl
  rw [h0]
  have h1 : tE (e2 (gInT true) (eVarO 1) (eA (fun ds => if ds.length = 1 then f_wanted_names ds else none) (aCons (eVar 0) aNil))) [.sh (encR r), .sh (.str x), .sh (optD w)] = some (!decide (x ∈ wantN r)) := int_ev (neg := true) rfl (call1_ev (x := encR r) rfl (m_wanted_names r))
  rw [wbM_name]
  by_cases q1 : x ∈ wantN r
  · rw [decide_eq_true q1] at h1
    rw [rl_no h1, if_pos q1]
    cases w with
    | none => rfl
    | some z =>
      rw [rl_no (show tE (e1 (gIsN false) (eVarO 2)) [.sh (encR r), .sh (.str x), .sh (optD (some z))] = some false from rfl)]
      have h2 : tA (tE (e2 gEq (eVarO 2) (eC (.str "")))) (tE (e2 gNe (e2 gIx (eVarO 0) (eC (.int 0))) (eC (.str "same")))) [.sh (encR r), .sh (.str x), .sh (optD (some z))] = some (decide (z = "") && !decide (kindR r = 3)) := tA_ev (eqz_ev rfl rfl (hw z rfl) (by decide +kernel)) (fun _ => wne_ev 3 (word_ev rfl))
      by_cases q2 : z = "" ∧ kindR r ≠ 3
      · rw [decide_eq_true q2.1, decide_eq_false q2.2] at h2
        rw [rl_yes h2]
        show _ = some (PyData.str (if z = "" ∧ kindR r ≠ 3 then "gone" else ""))
        rw [if_pos q2]
        rfl
      · have : (decide (z = "") && !decide (kindR r = 3)) = false := by
          rw [Bool.eq_false_iff]
          intro h
          rw [Bool.and_eq_true, decide_eq_true_eq, Bool.not_eq_true', decide_eq_false_iff_not] at h
          exact q2 h
        rw [this] at h2
        rw [rl_no h2]
        show _ = some (PyData.str (if z = "" ∧ kindR r ≠ 3 then "gone" else ""))
        rw [if_neg q2]
        rfl
  · rw [decide_eq_false q1] at h1
    rw [rl_yes h1, if_neg q1]
    rfl
theorem m_wrong_by (G : PGood ps) (r : PL.Row) (hr : RowOf ps r) (f : Fact) (hf : okF f) : f_wrong_by [encPs ps, encR r, encF f] = some (.str (wbM ps r f)) := by
  unfold f_wrong_by fnD F_wrong_by
  have h0 : fEnv 6 [encPs ps, encR r, encF f] = [.sh (encPs ps), .sh (encR r), .sh (encF f), .un, .un, .un] := rfl
  rw [h0]
  cases f with
  | name x w =>
    rw [asg_seq (d := encF (.name x w)) (e := [.sh (encPs ps), .sh (encR r), .sh (encF (.name x w)), .sh (.str "name"), .sh (.str x), .sh (optD w)]) rfl rfl]
    rw [rl_yes (eqz_ev (w := "name") (z := "name") rfl rfl (by decide +kernel) (by decide +kernel))]
    rw [rt_ev (call3_ev (x := encR r) rfl (y := .str x) rfl (u := optD w) rfl (m_wrong_by_name (ps := ps) r x w hf.2))]
    rfl
  | plot x b =>
    rw [asg_seq (d := encF (.plot x b)) (e := [.sh (encPs ps), .sh (encR r), .sh (encF (.plot x b)), .sh (.str "plot"), .sh (.str x), .sh (.bool b)]) rfl rfl]
    rw [rl_no ((eqz_ev (w := "plot") (z := "name") rfl rfl (by decide +kernel) (by decide +kernel)).trans (congrArg some (by decide +kernel : decide ((Str.ofString "plot") = Str.ofString "name") = false)))]
    cases b with
    | true =>
      rw [rl_yes (show tE (eVarO 5) [.sh (encPs ps), .sh (encR r), .sh (encF (.plot x true)), .sh (.str "plot"), .sh (.str x), .sh (.bool true)] = some true from rfl)]
      rw [rt_ev (call2_ev (x := encR r) rfl (y := .str x) rfl (m_wrong_by_open (ps := ps) r hr.1 x hf))]
      rfl
    | false =>
      rw [rl_no (show tE (eVarO 5) [.sh (encPs ps), .sh (encR r), .sh (encF (.plot x false)), .sh (.str "plot"), .sh (.str x), .sh (.bool false)] = some false from rfl)]
      have hwo : ∀ z, wantP ps r = some z → PyData.strOk z = true := fun z e => by
        cases r with
        | open_ y =>
          obtain ⟨q, mq, _, hg⟩ := get_mem G.nd (hr.2 y rfl)
          have e' : (getA ps y).getD none = some z := e
          rw [hg] at e'
          exact G.out mq z e'
        | lay n p k => cases e; exact hr.1 _ (by simp [textsR])
        | copy n o p => cases e; exact hr.1 _ (by simp [textsR])
        | give p => cases e; exact hr.1 _ (by simp [textsR])
        | _ => cases e
      have h3 : tE (e2 gEq (eVarO 4) (eA (fun ds => if ds.length = 2 then f_wanted_plot ds else none) (aCons (eVar 0) (aCons (eVar 1) aNil)))) [.sh (encPs ps), .sh (encR r), .sh (encF (.plot x false)), .sh (.str "plot"), .sh (.str x), .sh (.bool false)] = some (decide (wantP ps r = some x)) := eqs_ev rfl (call2_ev (x := encPs ps) rfl (y := encR r) rfl (m_wanted_plot G r hr)) hf hwo
      rw [wbM_shut]
      by_cases e : wantP ps r = some x
      · rw [decide_eq_true e] at h3
        rw [rl_yes h3, if_pos e]
        rfl
      · rw [decide_eq_false e] at h3
        rw [rl_no h3, if_neg e]
        rfl
end
section
variable {ps : List (Str × Option Str)}
theorem m_lays (r : PL.Row) : f_lays [encR r] = some (.bool (laysR r)) := by
  unfold f_lays fnD F_lays
  have h0 : fEnv 1 [encR r] = [.sh (encR r)] := rfl
  rw [h0, rt1_ev (orb_ev (weq_ev (r := r) 1 (word_ev rfl)) (fun _ => tv_ev (weq_ev (r := r) 2 (word_ev rfl))))]
  cases r <;> rfl
theorem m_gives (G : PGood ps) (r : PL.Row) (hr : ∀ x ∈ textsR r, PyData.strOk x = true) (x : Str) (hx : PyData.strOk x = true) : f_gives_back [encPs ps, encR r, .str x] = some (.bool (givesM ps r x)) := by
  unfold f_gives_back fnD F_gives_back
  have h0 : fEnv 3 [encPs ps, encR r, .str x] = [.sh (encPs ps), .sh (encR r), .sh (.str x)] := rfl
  rw [h0]
  have W := weq_ev (a := e2 gIx (eVarO 1) (eC (.int 0))) (env := [.sh (encPs ps), .sh (encR r), .sh (.str x)]) (r := r) 6 (z := "give") (word_ev rfl)
  cases r with
  | open_ x =>
    rw [rt1_ev (andb_ev (x := false) (y := true) W (fun z => by cases z))]
    rfl
  | lay n p z =>
    rw [rt1_ev (andb_ev (x := false) (y := true) W (fun z => by cases z))]
    rfl
  | copy n o p =>
    rw [rt1_ev (andb_ev (x := false) (y := true) W (fun z => by cases z))]
    rfl
  | same n o =>
    rw [rt1_ev (andb_ev (x := false) (y := true) W (fun z => by cases z))]
    rfl
  | add n o =>
    rw [rt1_ev (andb_ev (x := false) (y := true) W (fun z => by cases z))]
    rfl
  | tell n =>
    rw [rt1_ev (andb_ev (x := false) (y := true) W (fun z => by cases z))]
    rfl
  | give p =>
    have h2 : tE (e2 (gInL false) (e2 gIx (eVarO 1) (eC (.int 1))) (eL (fun env => ((aCons (eVar 0) (aCons (eVar 2) aNil)) env).bind fun ds => if ds.length = 2 then f_outward ds else none))) [.sh (encPs ps), .sh (encR (.give p)), .sh (.str x)] = some (decide (p ∈ outM ps x)) := ins_ev (neg := false) (ixt_ev (ds := rowD (.give p)) (i := ((1 : Nat) : Int)) rfl rfl rfl) (callN2_ev (x := encPs ps) rfl (y := .str x) rfl (m_outward ps G.ok G.len x hx)) (hr p (by simp [textsR])) (fun y m => G.str (outM_mem m))
    rw [rt1_ev (andb_ev (x := true) W (fun _ => tv_ev h2)), Bool.true_and]
    rfl
  | fork k =>
    rw [rt1_ev (andb_ev (x := false) (y := true) W (fun z => by cases z))]
    rfl
  | go k =>
    rw [rt1_ev (andb_ev (x := false) (y := true) W (fun z => by cases z))]
    rfl
  | end_ =>
    rw [rt1_ev (andb_ev (x := false) (y := true) W (fun z => by cases z))]
    rfl
theorem m_behind_plot (G : PGood ps) (r : PL.Row) (hr : RowOf ps r) (x : Str) (b : Bool) (hx : PyData.strOk x = true) : f_behind_plot [encPs ps, encR r, encF (.plot x b)] = some ((bhP ps r x b).map encF) := by
  unfold f_behind_plot fnN F_behind_plot
  have h0 : fEnv 4 [encPs ps, encR r, encF (.plot x b)] = [.sh (encPs ps), .sh (encR r), .sh (encF (.plot x b)), .un] := rfl
  rw [h0, seq_asg (d := .str x) (ixt_ev (ds := [.str "plot", .str x, .bool b]) (i := ((1 : Nat) : Int)) rfl rfl rfl)]
  dsimp only [List.set]
  have t1 : tE (e2 gEq (eVarO 1) (eTup (aCons (eC (.str "open")) (aCons (eVar 3) aNil)))) [.sh (encPs ps), .sh (encR r), .sh (encF (.plot x b)), .sh (.str x)] = some (decide (r = .open_ x)) := rowIs_ev rfl rfl hr.1 hx
  have t2 : tE (eA (fun ds => if ds.length = 3 then f_gives_back ds else none) (aCons (eVar 0) (aCons (eVar 1) (aCons (eVar 3) aNil)))) [.sh (encPs ps), .sh (encR r), .sh (encF (.plot x b)), .sh (.str x)] = some (givesM ps r x) := vt_ev (call3_ev (x := encPs ps) rfl (y := encR r) rfl (u := .str x) rfl (m_gives G r hr.1 x hx))
  have t3 : tE (e2 gEq (eA (fun ds => if ds.length = 2 then f_wanted_plot ds else none) (aCons (eVar 0) (aCons (eVar 1) aNil))) (eVarO 3)) [.sh (encPs ps), .sh (encR r), .sh (encF (.plot x b)), .sh (.str x)] = some (decide (wantP ps r = some x)) := eqo_ev (call2_ev (x := encPs ps) rfl (y := encR r) rfl (m_wanted_plot G r hr)) rfl hx (wantP_ok G hr)
  have t4 : tA (tE (eA (fun ds => if ds.length = 1 then f_lays ds else none) (aCons (eVar 1) aNil))) (tE (e2 gEq (eA (fun ds => if ds.length = 2 then f_wanted_plot ds else none) (aCons (eVar 0) (aCons (eVar 1) aNil))) (eVarO 3))) [.sh (encPs ps), .sh (encR r), .sh (encF (.plot x b)), .sh (.str x)] = some (laysR r && decide (wantP ps r = some x)) := tA_ev (vt_ev (call1_ev (x := encR r) rfl (m_lays r))) (fun _ => t3)
  unfold bhP
  by_cases q1 : r = .open_ x
  · rw [decide_eq_true q1] at t1
    rw [rl_yes t1, if_pos q1]
    rfl
  · rw [decide_eq_false q1] at t1
    rw [rl_no t1, if_neg q1]
    by_cases q2 : givesM ps r x = true
    · rw [q2] at t2
      rw [rl_yes t2, if_pos q2]
      rfl
    · rw [Bool.not_eq_true] at q2
      rw [q2] at t2
      rw [rl_no t2, if_neg (by rw [q2]; exact Bool.false_ne_true)]
      by_cases q3 : laysR r = true ∧ wantP ps r = some x
      · rw [q3.1, decide_eq_true q3.2] at t4
        rw [rl_yes t4, if_pos q3]
        have hn : e2 gIx (eVarO 1) (eC (.int 1)) [.sh (encPs ps), .sh (encR r), .sh (encF (.plot x b)), .sh (.str x)] = some (.str (firstN r)) := by
          cases r with
          | lay n p z => rfl
          | copy n o p => rfl
          | _ => exact absurd q3.1 Bool.false_ne_true
        rw [rn_ev (nlst_ev (acons_ev (d := encF (.plot x b)) rfl (acons_ev (tup_ev (acons_ev (d := .str "name") rfl (acons_ev hn (acons_ev (d := .str x) rfl anil_ev))) (by show 3 ≤ 100000; omega)) anil_ev)) (by show 2 ≤ 100000; omega))]
        rfl
      · have : (laysR r && decide (wantP ps r = some x)) = false := by
          rw [Bool.eq_false_iff]
          intro h
          rw [Bool.and_eq_true, decide_eq_true_eq] at h
          exact q3 h
        rw [this] at t4
        rw [rl_no t4, if_neg q3]
        rfl
theorem m_behind_name (G : PGood ps) (r : PL.Row) (hr : ∀ x ∈ textsR r, PyData.strOk x = true) (x : Str) (w : Option Str) (hf : okF (.name x w)) (hlw : ∀ z, w = some z → z.length ≤ 100000) : f_behind_name [encPs ps, encR r, encF (.name x w)] = some ((bhN ps r x w).map encF) := by
  unfold f_behind_name fnN F_behind_name
  have h0 : fEnv 5 [encPs ps, encR r, encF (.name x w)] = [.sh (encPs ps), .sh (encR r), .sh (encF (.name x w)), .un, .un] := rfl
  rw [h0, seq_asg (d := .str x) (ixt_ev (ds := [.str "name", .str x, optD w]) (i := ((1 : Nat) : Int)) rfl rfl rfl)]
  dsimp only [List.set]
  rw [seq_asg (d := optD w) (ixt_ev (ds := [.str "name", .str x, optD w]) (i := ((2 : Nat) : Int)) rfl rfl rfl)]
  dsimp only [List.set]
  have hsame : tE (e2 gEq (e2 gIx (eVarO 1) (eC (.int 0))) (eC (.str "same"))) [.sh (encPs ps), .sh (encR r), .sh (encF (.name x w)), .sh (.str x), .sh (optD w)] = some (decide (kindR r = 3)) := weq_ev 3 (word_ev rfl)
  have hlays : tE (eA (fun ds => if ds.length = 1 then f_lays ds else none) (aCons (eVar 1) aNil)) [.sh (encPs ps), .sh (encR r), .sh (encF (.name x w)), .sh (.str x), .sh (optD w)] = some (laysR r) := vt_ev (call1_ev (x := encR r) rfl (m_lays r))
  have hgv : tA (tV (eVarO 4)) (tE (eA (fun ds => if ds.length = 3 then f_gives_back ds else none) (aCons (eVar 0) (aCons (eVar 1) (aCons (eVar 4) aNil))))) [.sh (encPs ps), .sh (encR r), .sh (encF (.name x w)), .sh (.str x), .sh (optD w)] = some (gvM ps r w) := by
    cases w with
    | none => rfl
    | some z =>
      have hz : tV (eVarO 4) [.sh (encPs ps), .sh (encR r), .sh (encF (.name x (some z))), .sh (.str x), .sh (optD (some z))] = some (decide (z ≠ "")) := by
        show (if z.length ≤ 100000 then some ((z.length : Int) != 0) else none) = _
        rw [if_pos (hlw z rfl)]
        congr 1
        exact len_ne z
      exact tA_ev hz (fun _ => vt_ev (call3_ev (x := encPs ps) rfl (y := encR r) rfl (u := .str z) rfl (m_gives G r hr z (hf.2 z rfl))))
  have hno3 : kindR r ≠ 3 → ∀ R, (sSeq (sIf (tA (tE (e2 gEq (e2 gIx (eVarO 1) (eC (.int 0))) (eC (.str "same")))) (tA (tE (e2 gEq (e2 gIx (eVarO 1) (eC (.int 2))) (eVarO 3))) (tE (e2 gNe (e2 gIx (eVarO 1) (eC (.int 1))) (eVarO 3))))) (sRetN (nLst (aCons (eVar 2) (aCons (eTup (aCons (eC (.str "name")) (aCons (e2 gIx (eVarO 1) (eC (.int 1))) (aCons (eVar 4) aNil)))) aNil)))) sNext)
    (sSeq (sIf (tA (tE (e2 gEq (e2 gIx (eVarO 1) (eC (.int 0))) (eC (.str "same")))) (tA (tE (e2 gEq (e2 gIx (eVarO 1) (eC (.int 1))) (eVarO 3))) (tE (e2 gNe (e2 gIx (eVarO 1) (eC (.int 2))) (eVarO 3))))) (sRetN (nLst aNil)) sNext) R)) [.sh (encPs ps), .sh (encR r), .sh (encF (.name x w)), .sh (.str x), .sh (optD w)] = R [.sh (encPs ps), .sh (encR r), .sh (encF (.name x w)), .sh (.str x), .sh (optD w)] := fun h R => by
    rw [decide_eq_false h] at hsame
    rw [rl_no (tA_ev (y := true) hsame (fun z => by cases z)), rl_no (tA_ev (y := true) hsame (fun z => by cases z))]
  have hnol : laysR r = false → ∀ R, sSeq (sIf (tA (tE (eA (fun ds => if ds.length = 1 then f_lays ds else none) (aCons (eVar 1) aNil))) (tE (e2 gEq (e2 gIx (eVarO 1) (eC (.int 1))) (eVarO 3)))) (sRetN (nLst aNil)) sNext) R [.sh (encPs ps), .sh (encR r), .sh (encF (.name x w)), .sh (.str x), .sh (optD w)] = R [.sh (encPs ps), .sh (encR r), .sh (encF (.name x w)), .sh (.str x), .sh (optD w)] := fun h R => by
    rw [h] at hlays
    rw [rl_no (tA_ev (y := true) hlays (fun z => by cases z))]
  have hnog : kindR r ≠ 6 → ∀ R, sSeq (sIf (tA (tV (eVarO 4)) (tE (eA (fun ds => if ds.length = 3 then f_gives_back ds else none) (aCons (eVar 0) (aCons (eVar 1) (aCons (eVar 4) aNil)))))) (sRetN (nLst (aCons (eTup (aCons (eC (.str "name")) (aCons (eVar 3) (aCons (eC (.str "")) aNil)))) aNil))) sNext) R [.sh (encPs ps), .sh (encR r), .sh (encF (.name x w)), .sh (.str x), .sh (optD w)] = R [.sh (encPs ps), .sh (encR r), .sh (encF (.name x w)), .sh (.str x), .sh (optD w)] := fun h R => by
    have : (gvM ps r w) = false := by
      cases w with
      | none => rfl
      | some z =>
        have : givesM ps r z = false := by cases r <;> first | rfl | exact absurd rfl h
        show (decide (z ≠ "") && givesM ps r z) = false
        rw [this, Bool.and_false]
    rw [this] at hgv
    rw [rl_no hgv]
  cases r with
  | same n o =>
    have hn := hr n (by simp [textsR])
    have ho := hr o (by simp [textsR])
    have i1 : e2 gIx (eVarO 1) (eC (.int 1)) [.sh (encPs ps), .sh (encR (.same n o)), .sh (encF (.name x w)), .sh (.str x), .sh (optD w)] = some (.str n) := rfl
    have i2 : e2 gIx (eVarO 1) (eC (.int 2)) [.sh (encPs ps), .sh (encR (.same n o)), .sh (encF (.name x w)), .sh (.str x), .sh (optD w)] = some (.str o) := rfl
    have t1 := tA_ev (x := true) hsame (fun _ => tA_ev (eqz_ev (b := eVarO 3) (z := x) i2 rfl ho hf.1) (fun _ => nez_ev (b := eVarO 3) (z := x) i1 rfl hn hf.1))
    have t2 := tA_ev (x := true) hsame (fun _ => tA_ev (eqz_ev (b := eVarO 3) (z := x) i1 rfl hn hf.1) (fun _ => nez_ev (b := eVarO 3) (z := x) i2 rfl ho hf.1))
    rw [Bool.true_and] at t1 t2
    show _ = some ((if n = o then [Fact.name x w] else (if x = n then [] else [.name x w]) ++ (if x = o then [.name n w] else [])).map encF)
    by_cases q1 : o = x ∧ n ≠ x
    · rw [decide_eq_true q1.1, decide_eq_false q1.2] at t1
      rw [rl_yes t1]
      rw [if_neg (fun e => q1.2 (e.trans q1.1)), if_neg (fun e => q1.2 e.symm), if_pos q1.1.symm]
      rfl
    · have q1' : (decide (o = x) && !decide (n = x)) = false := by
        rw [Bool.eq_false_iff]
        intro h
        rw [Bool.and_eq_true, decide_eq_true_eq, Bool.not_eq_true', decide_eq_false_iff_not] at h
        exact q1 h
      rw [q1'] at t1
      rw [rl_no t1]
      by_cases q2 : n = x ∧ o ≠ x
      · rw [decide_eq_true q2.1, decide_eq_false q2.2] at t2
        rw [rl_yes t2]
        rw [if_neg (fun e => q2.2 (e.symm.trans q2.1)), if_pos q2.1.symm, if_neg (fun e => q2.2 e.symm)]
        rfl
      · have q2' : (decide (n = x) && !decide (o = x)) = false := by
          rw [Bool.eq_false_iff]
          intro h
          rw [Bool.and_eq_true, decide_eq_true_eq, Bool.not_eq_true', decide_eq_false_iff_not] at h
          exact q2 h
        rw [q2'] at t2
        rw [rl_no t2, hnol rfl, hnog (by intro z; cases z)]
        have : (if n = o then [Fact.name x w] else (if x = n then [] else [.name x w]) ++ (if x = o then [.name n w] else [])) = [Fact.name x w] := by
          by_cases e : n = o
          · rw [if_pos e]
          · rw [if_neg e]
            have h1 : ¬ x = n := fun z => q2 ⟨z.symm, fun z2 => e (z.symm.trans z2.symm)⟩
            have h2 : ¬ x = o := fun z => q1 ⟨z.symm, fun z2 => h1 z2.symm⟩
            rw [if_neg h1, if_neg h2]
            rfl
        rw [this]
        rfl
  | lay n p z =>
    have hn := hr n (by simp [textsR])
    have i1 : e2 gIx (eVarO 1) (eC (.int 1)) [.sh (encPs ps), .sh (encR (.lay n p z)), .sh (encF (.name x w)), .sh (.str x), .sh (optD w)] = some (.str n) := rfl
    have t1 := tA_ev (x := true) hlays (fun _ => eqz_ev (b := eVarO 3) (z := x) i1 rfl hn hf.1)
    rw [Bool.true_and] at t1
    rw [hno3 (by intro z; cases z)]
    show _ = some ((if n = x then [] else [Fact.name x w]).map encF)
    by_cases q1 : n = x
    · rw [decide_eq_true q1] at t1
      rw [rl_yes t1, if_pos q1]
      rfl
    · rw [decide_eq_false q1] at t1
      rw [rl_no t1, if_neg q1, hnog (by intro z; cases z)]
      rfl
  | copy n o p =>
    have hn := hr n (by simp [textsR])
    have i1 : e2 gIx (eVarO 1) (eC (.int 1)) [.sh (encPs ps), .sh (encR (.copy n o p)), .sh (encF (.name x w)), .sh (.str x), .sh (optD w)] = some (.str n) := rfl
    have t1 := tA_ev (x := true) hlays (fun _ => eqz_ev (b := eVarO 3) (z := x) i1 rfl hn hf.1)
    rw [Bool.true_and] at t1
    rw [hno3 (by intro z; cases z)]
    show _ = some ((if n = x then [] else [Fact.name x w]).map encF)
    by_cases q1 : n = x
    · rw [decide_eq_true q1] at t1
      rw [rl_yes t1, if_pos q1]
      rfl
    · rw [decide_eq_false q1] at t1
      rw [rl_no t1, if_neg q1, hnog (by intro z; cases z)]
      rfl
  | give p =>
    rw [hno3 (by intro z; cases z), hnol rfl]
    cases w with
    | none =>
      rw [rl_no hgv]
      rfl
    | some z =>
      show _ = some ((if z ≠ "" ∧ p ∈ outM ps z then [Fact.name x (some "")] else [.name x (some z)]).map encF)
      by_cases q1 : z ≠ "" ∧ p ∈ outM ps z
      · have : gvM ps (.give p) (some z) = true := by
          show (decide (z ≠ "") && decide (p ∈ outM ps z)) = true
          rw [decide_eq_true q1.1, decide_eq_true q1.2]
          rfl
        rw [this] at hgv
        rw [rl_yes hgv, if_pos q1]
        rfl
      · have : gvM ps (.give p) (some z) = false := by
          show (decide (z ≠ "") && decide (p ∈ outM ps z)) = false
          rw [Bool.eq_false_iff]
          intro h
          rw [Bool.and_eq_true, decide_eq_true_eq, decide_eq_true_eq] at h
          exact q1 h
        rw [this] at hgv
        rw [rl_no hgv, if_neg q1]
        rfl
  | open_ x =>
    rw [hno3 (by intro z; cases z), hnol rfl, hnog (by intro z; cases z)]
    rfl
  | add n o =>
    rw [hno3 (by intro z; cases z), hnol rfl, hnog (by intro z; cases z)]
    rfl
  | tell n =>
    rw [hno3 (by intro z; cases z), hnol rfl, hnog (by intro z; cases z)]
    rfl
  | fork k =>
    rw [hno3 (by intro z; cases z), hnol rfl, hnog (by intro z; cases z)]
    rfl
  | go k =>
    rw [hno3 (by intro z; cases z), hnol rfl, hnog (by intro z; cases z)]
    rfl
  | end_ =>
    rw [hno3 (by intro z; cases z), hnol rfl, hnog (by intro z; cases z)]
    rfl
theorem m_behind (G : PGood ps) (r : PL.Row) (hr : RowOf ps r) (f : Fact) (hf : okF f) (hlw : ∀ x w z, f = .name x w → w = some z → z.length ≤ 100000) : f_behind [encPs ps, encR r, encF f] = some ((bhM ps r f).map encF) := by
  unfold f_behind fnN F_behind
  have h0 : fEnv 3 [encPs ps, encR r, encF f] = [.sh (encPs ps), .sh (encR r), .sh (encF f)] := rfl
  rw [h0]
  cases f with
  | name x w =>
    rw [rl_yes ((eqz_ev (w := "name") (z := "name") (ixt_ev (ds := [.str "name", .str x, optD w]) (i := ((0 : Nat) : Int)) rfl rfl rfl) rfl (by decide +kernel) (by decide +kernel)).trans (congrArg some (decide_eq_true rfl)))]
    have hc : (fun env => ((aCons (eVar 0) (aCons (eVar 1) (aCons (eVar 2) aNil))) env).bind fun ds => if ds.length = 3 then f_behind_name ds else none) [.sh (encPs ps), .sh (encR r), .sh (encF (.name x w))] = some ((bhN ps r x w).map encF) := m_behind_name G r hr.1 x w hf (fun z e => hlw x w z rfl e)
    rw [rn_ev hc]
    rfl
  | plot x b =>
    rw [rl_no ((eqz_ev (w := "plot") (z := "name") (ixt_ev (ds := [.str "plot", .str x, .bool b]) (i := ((0 : Nat) : Int)) rfl rfl rfl) rfl (by decide +kernel) (by decide +kernel)).trans (congrArg some (by decide +kernel : decide ((Str.ofString "plot") = Str.ofString "name") = false)))]
    have hc : (fun env => ((aCons (eVar 0) (aCons (eVar 1) (aCons (eVar 2) aNil))) env).bind fun ds => if ds.length = 3 then f_behind_plot ds else none) [.sh (encPs ps), .sh (encR r), .sh (encF (.plot x b))] = some ((bhP ps r x b).map encF) := m_behind_plot G r hr x b hf
    rw [rn1_ev hc]
    rfl
end
end K09
namespace K09
open PySem L2 PySem.Spec PyProof.Rows PL PR
/-! ### the facts of a state -/
def headS (l : List Str) : Str := l.head?.getD ""
def homeS (L : LS) (n : Int) : Str := headS ((L.opn.filter fun q => decide (q.2 = n)).map (·.1))
def whereM (L : LS) (x : Str) : Option Str := match getA L.held x with
  | none => none
  | some i => match L.worth[i]? with
    | none => none
    | some z => some (homeS L z.2)
def factsP (ps : List (Str × Option Str)) (L : LS) : List Fact := ps.map fun q => .plot q.1 (decide (q.1 ∈ keysM L))
def factsN (nms : List Str) (L : LS) : List Fact := nms.map fun x => .name x (whereM L x)
def factsM (ps : List (Str × Option Str)) (nms : List Str) (L : LS) : List Fact := factsP ps L ++ factsN nms L
section
variable {ps : List (Str × Option Str)} {nms : List Str} {L : LS}
abbrev EF (ps : List (Str × Option Str)) (nms : List Str) (L : LS) (k3 k4 k5 k6 k7 k8 k9 k10 : Sl) : PL.Env := [.sh (encPs ps), .sh (.list (nms.map PyData.str)), .sh (lsD L), k3, k4, k5, k6, k7, k8, k9, k10]
def wholeIf : PL.Env → Option Out := (sIf (tE (e2 (gDin false) (eVarO 5) (e2 gDg (eVar 2) (eC (.str "held"))))) (sSeq (sAsg (e2 gIx (e2 gIx (e2 gDg (eVar 2) (eC (.str "worth"))) (e2 gDg (e2 gDg (eVar 2) (eC (.str "held"))) (eVarO 5))) (eC (.int 1))) (tgN 7))
    (sAsg (e2 gIx (eL (nCat (eL (nLc (iLS (e2 gDg (eVar 2) (eC (.str "open")))) (tgT 2 (tgCons (tgN 8) (tgCons (tgN 9) tgNil))) (tE (e2 gEq (eVarO 9) (eVarO 7))) (eVar 8) [8, 9])) (eL (nLst (aCons (eC (.str "")) aNil))))) (eC (.int 0))) (tgN 6))) sNext)
def factB : PL.Env → Option Out := (sSeq (sAsg (eC .none) (tgN 6))
    (sSeq wholeIf
    (sApp 4 (eTup (aCons (eC (.str "name")) (aCons (eVar 5) (aCons (eVar 6) aNil)))))))
theorem if_where (hh : ∀ q ∈ L.held, q.2 < L.worth.length) (hl : L.opn.length ≤ 1000) (x : Str) (k3 k4 k7 k8 k9 k10 : Sl) : ∃ j7 j8 j9, wholeIf (EF ps nms L k3 k4 (.sh (.str x)) (.sh .none) k7 k8 k9 k10) = some (.nx (EF ps nms L k3 k4 (.sh (.str x)) (.sh (optD (whereM L x))) j7 j8 j9 k10)) := by
  unfold wholeIf
  have h1 : tE (e2 (gDin false) (eVarO 5) (e2 gDg (eVar 2) (eC (.str "held")))) (EF ps nms L k3 k4 (.sh (.str x)) (.sh .none) k7 k8 k9 k10) = some (getA L.held x).isSome := in_held (neg := false) rfl (dg_held rfl)
  cases hg : getA L.held x with
  | none =>
    rw [hg] at h1
    refine ⟨k7, k8, k9, (if_no h1).trans ?_⟩
    unfold whereM
    rw [hg]
    rfl
  | some i =>
    rw [hg] at h1
    have hi := hh _ (mem_of_get hg)
    obtain ⟨z, hz⟩ : ∃ z, L.worth[i]? = some z := ⟨_, List.getElem?_eq_getElem hi⟩
    have hw : whereM L x = some (homeS L z.2) := by
      unfold whereM
      rw [hg]
      show (match L.worth[i]? with | none => none | some z => some (homeS L z.2)) = _
      rw [hz]
    have hhome : e2 gIx (e2 gIx (e2 gDg (eVar 2) (eC (.str "worth"))) (e2 gDg (e2 gDg (eVar 2) (eC (.str "held"))) (eVarO 5))) (eC (.int 1)) (EF ps nms L k3 k4 (.sh (.str x)) (.sh .none) k7 k8 k9 k10) = some (.int z.2) :=
      ix_ev (ds := [.int z.1, .int z.2]) (i := ((1 : Nat) : Int)) (ix_ev (ds := L.worth.map encN) (i := (i : Int)) (dg_worth rfl) (at_held (dg_held rfl) rfl hg) (atI_nat' (by rw [List.getElem?_map, hz]; rfl))) rfl (atI_nat' rfl)
    have hc : eL (nLc (iLS (e2 gDg (eVar 2) (eC (.str "open")))) (tgT 2 (tgCons (tgN 8) (tgCons (tgN 9) tgNil))) (tE (e2 gEq (eVarO 9) (eVarO 7))) (eVar 8) [8, 9]) (EF ps nms L k3 k4 (.sh (.str x)) (.sh .none) (.sh (.int z.2)) k8 k9 k10) = some (.list (((L.opn.filter fun q => decide (q.2 = z.2)).map (·.1)).map PyData.str)) := by
      have hi' : iLS (e2 gDg (eVar 2) (eC (.str "open"))) (EF ps nms L k3 k4 (.sh (.str x)) (.sh .none) (.sh (.int z.2)) k8 k9 k10) = some (L.opn.map encQ) := by
        unfold iLS
        rw [dg_open rfl]
        rfl
      refine eL_ev ?_
      unfold nLc
      rw [hi', Option.bind_some, if_pos (by rw [List.length_map]; omega)]
      rw [lc_gen (fun d => match d with | .tuple [a, b] => EF ps nms L k3 k4 (.sh (.str x)) (.sh .none) (.sh (.int z.2)) (.sh a) (.sh b) k10 | _ => []) (fun d => match d with | .tuple [_, .int n] => decide (n = z.2) | _ => false) (fun d => match d with | .tuple [a, _] => a | _ => .none)]
      · rw [List.filter_map, List.map_map, List.map_map]
        rfl
      · intro d m
        obtain ⟨q, _, rfl⟩ := List.mem_map.mp m
        rfl
      · intro d m
        obtain ⟨q, mq, rfl⟩ := List.mem_map.mp m
        exact eqi_ev (i := q.2) (j := z.2) rfl rfl
      · intro d m _
        obtain ⟨q, _, rfl⟩ := List.mem_map.mp m
        rfl
    have hx : e2 gIx (eL (nCat (eL (nLc (iLS (e2 gDg (eVar 2) (eC (.str "open")))) (tgT 2 (tgCons (tgN 8) (tgCons (tgN 9) tgNil))) (tE (e2 gEq (eVarO 9) (eVarO 7))) (eVar 8) [8, 9])) (eL (nLst (aCons (eC (.str "")) aNil))))) (eC (.int 0)) (EF ps nms L k3 k4 (.sh (.str x)) (.sh .none) (.sh (.int z.2)) k8 k9 k10) = some (.str (homeS L z.2)) := by
      have hcat : eL (nCat (eL (nLc (iLS (e2 gDg (eVar 2) (eC (.str "open")))) (tgT 2 (tgCons (tgN 8) (tgCons (tgN 9) tgNil))) (tE (e2 gEq (eVarO 9) (eVarO 7))) (eVar 8) [8, 9])) (eL (nLst (aCons (eC (.str "")) aNil)))) (EF ps nms L k3 k4 (.sh (.str x)) (.sh .none) (.sh (.int z.2)) k8 k9 k10) = some (.list ((((L.opn.filter fun q => decide (q.2 = z.2)).map (·.1)).map PyData.str) ++ [.str ""])) := by
        refine eL_ev ?_
        unfold nCat
        rw [hc, lst_ev (ds := [.str ""]) rfl (by show 1 ≤ 100000; omega)]
        show (if (((L.opn.filter fun q => decide (q.2 = z.2)).map (·.1)).map PyData.str).length + [PyData.str ""].length ≤ 100000 then some _ else none) = _
        rw [if_pos (by
          rw [List.length_map, List.length_map]
          have := List.length_filter_le (fun q : Str × Int => decide (q.2 = z.2)) L.opn
          show _ + 1 ≤ _
          omega)]
      refine ix_ev hcat (i := ((0 : Nat) : Int)) rfl (atI_nat' ?_)
      unfold homeS headS
      cases (L.opn.filter fun q => decide (q.2 = z.2)).map (·.1) <;> rfl
    refine ⟨.sh (.int z.2), k8, k9, (if_yes h1).trans ?_⟩
    rw [seq_asg hhome]
    dsimp only [List.set]
    rw [asg_nx hx, hw]
    rfl
theorem m_facts (G : PGood ps) (hk : ∀ y ∈ keysM L, PyData.strOk y = true) (hh : ∀ q ∈ L.held, q.2 < L.worth.length) (hl : L.opn.length ≤ 1000) (hn : nms.length ≤ 1000) : f__law_facts [encPs ps, .list (nms.map PyData.str), lsD L] = some ((factsM ps nms L).map encF) := by
  have hpl := G.len
  unfold f__law_facts fnN F__law_facts
  have h0 : fEnv 11 [encPs ps, .list (nms.map PyData.str), lsD L] = EF ps nms L .un .un .un .un .un .un .un .un := rfl
  rw [h0]
  have hup : eL (nLc (iLS (e2 gDg (eVar 2) (eC (.str "open")))) (tgT 2 (tgCons (tgN 8) (tgCons (tgN 9) tgNil))) (fun _ => some true) (eVar 8) [8, 9]) (EF ps nms L .un .un .un .un .un .un .un .un) = some (.list ((keysM L).map PyData.str)) := by
    have hi' : iLS (e2 gDg (eVar 2) (eC (.str "open"))) (EF ps nms L .un .un .un .un .un .un .un .un) = some (L.opn.map encQ) := by
      unfold iLS
      rw [dg_open rfl]
      rfl
    refine eL_ev ?_
    unfold nLc
    rw [hi', Option.bind_some, if_pos (by rw [List.length_map]; omega)]
    rw [lc_all (fun d => match d with | .tuple [a, b] => EF ps nms L .un .un .un .un .un (.sh a) (.sh b) .un | _ => []) (fun d => match d with | .tuple [a, _] => a | _ => .none)]
    · unfold keysM
      rw [List.map_map, List.map_map]
      rfl
    · intro d m
      obtain ⟨q, _, rfl⟩ := List.mem_map.mp m
      rfl
    · intro d m
      obtain ⟨q, _, rfl⟩ := List.mem_map.mp m
      rfl
  rw [seq_asg hup]
  dsimp only [List.set]
  have hpf : nLc (iLS (eVarO 0)) (tgT 2 (tgCons (tgN 8) (tgCons (tgN 10) tgNil))) (fun _ => some true) (eTup (aCons (eC (.str "plot")) (aCons (eVar 8) (aCons (e2 (gInL false) (eVarO 8) (eVarO 3)) aNil)))) [8, 10] (EF ps nms L (.sh (.list ((keysM L).map PyData.str))) .un .un .un .un .un .un .un) = some ((factsP ps L).map encF) := by
    have hi' : iLS (eVarO 0) (EF ps nms L (.sh (.list ((keysM L).map PyData.str))) .un .un .un .un .un .un .un) = some (ps.map encP) := rfl
    unfold nLc
    rw [hi', Option.bind_some, if_pos (by rw [List.length_map]; omega)]
    rw [lc_all (fun d => match d with | .tuple [a, b] => EF ps nms L (.sh (.list ((keysM L).map PyData.str))) .un .un .un .un (.sh a) .un (.sh b) | _ => []) (fun d => match d with | .tuple [.str n, _] => .tuple [.str "plot", .str n, .bool (decide (n ∈ keysM L))] | _ => .none)]
    · unfold factsP
      rw [List.map_map, List.map_map]
      rfl
    · intro d m
      obtain ⟨q, _, rfl⟩ := List.mem_map.mp m
      rfl
    · intro d m
      obtain ⟨q, mq, rfl⟩ := List.mem_map.mp m
      have hq := G.str (List.mem_map.mpr ⟨q, mq, rfl⟩)
      exact tup_ev (acons_ev (d := .str "plot") rfl (acons_ev (d := .str q.1) rfl (acons_ev (tv_ev (ins_ev (neg := false) (x := q.1) (l := keysM L) rfl rfl hq hk)) anil_ev))) (by show 3 ≤ 100000; omega)
  rw [seq_nx (own_nx hpf)]
  dsimp only [List.set]
  obtain ⟨e', h3, j5, j6, j7, j8, j9, rfl⟩ := for_inv (G := tgN 5) (F := factB) (fun k e => ∃ j5 j6 j7 j8 j9, e = EF ps nms L (.sh (.list ((keysM L).map PyData.str))) (.own ((factsP ps L ++ factsN (nms.take k) L).map encF)) j5 j6 j7 j8 j9 .un) (nms.map PyData.str) 0 (EF ps nms L (.sh (.list ((keysM L).map PyData.str))) (.own ((factsP ps L).map encF)) .un .un .un .un .un .un)
    ⟨.un, .un, .un, .un, .un, by rw [List.take_zero]; show _ = EF ps nms L _ (.own ((factsP ps L ++ []).map encF)) _ _ _ _ _ _; rw [List.append_nil]⟩
    (fun k d e hd he => by
      rw [Nat.zero_add] at he ⊢
      obtain ⟨j5, j6, j7, j8, j9, rfl⟩ := he
      rw [List.getElem?_map] at hd
      obtain ⟨x, hx, rfl⟩ := Option.map_eq_some_iff.mp hd
      have hkl := (List.getElem?_eq_some_iff.mp hx).1
      have ht : nms.take (k + 1) = nms.take k ++ [x] := by rw [List.take_succ, hx]; rfl
      obtain ⟨i7, i8, i9, hw⟩ := if_where (ps := ps) (nms := nms) hh hl x (.sh (.list ((keysM L).map PyData.str))) (.own ((factsP ps L ++ factsN (nms.take k) L).map encF)) j7 j8 j9 .un
      refine ⟨EF ps nms L (.sh (.list ((keysM L).map PyData.str))) (.own ((factsP ps L ++ factsN (nms.take (k + 1)) L).map encF)) (.sh (.str x)) (.sh (optD (whereM L x))) i7 i8 i9 .un, .inl ?_, _, _, _, _, _, rfl⟩
      show factB (EF ps nms L _ _ (.sh (.str x)) _ _ _ _ _) = _
      unfold factB
      rw [seq_asg (d := .none) rfl]
      dsimp only [List.set]
      rw [seq_nx hw]
      have hfl : ((factsP ps L ++ factsN (nms.take k) L).map encF).length < 100000 := by
        unfold factsP factsN
        rw [List.length_map, List.length_append, List.length_map, List.length_map, List.length_take]
        omega
      rw [app_nx (ds := (factsP ps L ++ factsN (nms.take k) L).map encF) rfl (tup_ev (ds := [.str "name", .str x, optD (whereM L x)]) rfl (by show 3 ≤ 100000; omega)) hfl]
      have hs : (factsP ps L ++ factsN (nms.take (k + 1)) L).map encF = (factsP ps L ++ factsN (nms.take k) L).map encF ++ [encF (.name x (whereM L x))] := by
        unfold factsN
        simp only [ht, List.map_append, List.append_assoc, List.map_cons, List.map_nil]
      rw [hs]
      rfl)
  rw [Nat.zero_add, List.length_map, List.take_of_length_le (Nat.le_refl _)] at h3
  have hfor : sFor (iLS (eVar 1)) (tgN 5) factB (EF ps nms L (.sh (.list ((keysM L).map PyData.str))) (.own ((factsP ps L).map encF)) .un .un .un .un .un .un) = some (.nx (EF ps nms L (.sh (.list ((keysM L).map PyData.str))) (.own ((factsP ps L ++ factsN nms L).map encF)) j5 j6 j7 j8 j9 .un)) := h3
  have hend : (sSeq (sFor (iLS (eVar 1)) (tgN 5) factB) (sRetO 4)) (EF ps nms L (.sh (.list ((keysM L).map PyData.str))) (.own ((factsP ps L).map encF)) .un .un .un .un .un .un) = some (.rtn ((factsP ps L ++ factsN nms L).map encF)) := by
    rw [seq_nx hfor]
    rfl
  exact congrArg (fun (o : Option Out) => match o with | some (.rtn es) => some es | _ => none) hend
end
end K09
namespace K09
open PySem L2 PySem.Spec PyProof.Rows PL PR
/-! ### facts keep step -/
structure Trees (ps : List (Str × Option Str)) : Prop where
  good : PGood ps
  ch : ∀ q ∈ ps, ∃ l, outM ps q.1 = q.1 :: l ∧ l.head? = q.2
  outIn : ∀ q ∈ ps, ∀ c, q.2 = some c → c ∈ ps.map (·.1)
  ne : ∀ q ∈ ps, q.1 ≠ ""
theorem trees (ns : List Int) : Trees (plotsM ns) := by
  refine ⟨pgood ns, fun q m => ?_, fun q m c e => ?_, fun q m e => ?_⟩
  · obtain ⟨i, mi, rfl⟩ := List.mem_map.mp m
    rw [List.mem_range] at mi
    have hp := pickM_nn ns i
    refine ⟨_, chain_rec ns i mi, ?_⟩
    show _ = (if pickM ns i < i then some (nameM ns (pickM ns i).toNat) else none)
    by_cases h : pickM ns i < i
    · rw [if_pos h, if_pos h, chain_rec ns _ (by omega)]
      rfl
    · rw [if_neg h, if_neg h]
      rfl
  · obtain ⟨i, mi, rfl⟩ := List.mem_map.mp m
    rw [List.mem_range] at mi
    have hp := pickM_nn ns i
    have e : (if pickM ns i < i then some (nameM ns (pickM ns i).toNat) else none) = some c := e
    split at e
    · cases e
      rw [plots_names]
      exact List.mem_map.mpr ⟨_, List.mem_range.mpr (by omega), rfl⟩
    · cases e
  · obtain ⟨i, mi, rfl⟩ := List.mem_map.mp m
    have h1 : (cs (nameM ns i)).length = 0 := by
      have e : nameM ns i = "" := e
      rw [e]
      decide +kernel
    have h2 : cs (nameM ns i) = callL (ns.getD 1 0 / 3) i [97 + i] := rfl
    rw [h2] at h1
    unfold callL at h1
    simp only [List.length_append, List.length_singleton] at h1
    omega
def plotsR : PL.Row → List Str
  | .open_ x => [x] | .lay _ p _ => [p] | .copy _ _ p => [p] | .give p => [p] | _ => []
def namesR : PL.Row → List Str
  | .lay n _ _ => [n] | .copy n o _ => [n, o] | .same n o => [n, o] | .add n o => [n, o] | .tell n => [n] | _ => []
structure RowAll (ps : List (Str × Option Str)) (nms : List Str) (r : PL.Row) : Prop where
  pl : ∀ x ∈ plotsR r, x ∈ ps.map (·.1)
  nm : ∀ x ∈ namesR r, x ∈ nms
theorem rowM_all {ps : List (Str × Option Str)} {nms : List Str} (h1 : 0 < ps.length) (h2 : 0 < nms.length) (c sz : Int) : RowAll ps nms (rowM ps nms c sz) := by
  have hn' : ∀ i, pickS nms i ∈ nms := fun i => pickS_mem h2
  have hp' : ∀ i, pickS (ps.map (·.1)) i ∈ ps.map (·.1) := fun i => pickS_mem (by rw [List.length_map]; exact h1)
  refine ⟨fun x m => ?_, fun x m => ?_⟩
  · unfold rowM at m
    split at m <;> simp only [plotsR, List.mem_cons, List.not_mem_nil, or_false] at m
    all_goals first | (subst m; exact hp' _) | exact absurd m (by simp)
  · unfold rowM at m
    split at m <;> simp only [namesR, List.mem_cons, List.not_mem_nil, or_false] at m
    all_goals first | (rcases m with rfl | rfl <;> exact hn' _) | (subst m; exact hn' _) | exact absurd m (by simp)
section
variable {ps : List (Str × Option Str)} {nms : List Str} {S : SM} {L : LS} {t : Nat}
theorem home_some {n : Int} (h : n ∈ L.opn.map (·.2)) : ∃ q ∈ L.opn, q.2 = n ∧ homeS L n = q.1 := by
  unfold homeS headS
  cases hf : L.opn.filter fun q => decide (q.2 = n) with
  | nil =>
    obtain ⟨q, mq, e⟩ := List.mem_map.mp h
    exact absurd (decide_eq_true e) (List.filter_eq_nil_iff.mp hf q mq)
  | cons q l =>
    have m : q ∈ L.opn.filter fun q => decide (q.2 = n) := by rw [hf]; exact List.mem_cons_self ..
    obtain ⟨mq, e⟩ := List.mem_filter.mp m
    exact ⟨q, mq, of_decide_eq_true e, rfl⟩
theorem home_none {n : Int} (h : n ∉ L.opn.map (·.2)) : homeS L n = "" := by
  unfold homeS headS
  rw [List.filter_eq_nil_iff.mpr fun q mq e => h (List.mem_map.mpr ⟨q, mq, of_decide_eq_true e⟩)]
  rfl
theorem where_lack (I : Inv5 ps S L t) (x : Str) : (lackM L x = "nothing" ∧ whereM L x = none) ∨ (lackM L x = "gone" ∧ whereM L x = some "") ∨ (lackM L x = "" ∧ ∃ q ∈ L.opn, whereM L x = some q.1) := by
  unfold lackM whereM
  cases hg : getA L.held x with
  | none => exact .inl ⟨rfl, rfl⟩
  | some i =>
    have hi : i < L.worth.length := by
      have := I.he (x, i) (by rw [← I.held]; exact mem_of_get hg)
      rw [I.worth, List.length_map]
      exact this
    obtain ⟨z, hz⟩ : ∃ z, L.worth[i]? = some z := ⟨_, List.getElem?_eq_getElem hi⟩
    right
    simp only [hz]
    by_cases h : z.2 ∈ L.opn.map (·.2)
    · right
      rw [if_pos h]
      obtain ⟨q, mq, e, e2⟩ := home_some h
      exact ⟨rfl, q, mq, by rw [e2]⟩
    · left
      rw [if_neg h, home_none h]
      exact ⟨rfl, rfl⟩
theorem key_ne (T : Trees ps) (I : Inv5 ps S L t) {q : Str × Int} (m : q ∈ L.opn) : q.1 ≠ "" := by
  rw [I.opn] at m
  obtain ⟨p, mp, e⟩ := List.mem_map.mp (I.keys q m)
  rw [← e]
  exact T.ne p mp
theorem wb_lack (T : Trees ps) (I : Inv5 ps S L t) {r : PL.Row} {x : Str} (h : x ∈ wantN r) (h3 : kindR r ≠ 3) : wbM ps r (.name x (whereM L x)) = lackM L x := by
  rw [wbM_name, if_pos h]
  rcases where_lack I x with ⟨a, b⟩ | ⟨a, b⟩ | ⟨a, q, mq, b⟩
  · rw [a, b]
  · rw [a, b]
    exact if_pos ⟨rfl, h3⟩
  · rw [a, b]
    exact if_neg fun z => key_ne T I mq z.1
theorem want_open (T : Trees ps) {x : Str} (hx : x ∈ ps.map (·.1)) : openM ps L x = (if x ∈ keysM L then ("open already" : Str) else match wantP ps (.open_ x) with | some c => upM L c | none => ("" : Str)) := by
  obtain ⟨q, mq, e, hg⟩ := get_mem T.good.nd hx
  obtain ⟨l, h1, h2⟩ := T.ch q mq
  have hw : wantP ps (.open_ x) = q.2 := by
    show (getA ps x).getD none = _
    rw [hg]
    rfl
  unfold openM
  rw [← e, h1, e, hw, ← h2]
  cases l with
  | nil => rfl
  | cons c l => rfl
theorem not_up {x : Str} (h : upM L x ≠ "") : x ∉ keysM L ∧ upM L x = "not open" := by
  unfold upM at h ⊢
  split at h
  · exact absurd rfl h
  · rename_i hn
    exact ⟨hn, if_neg hn⟩
theorem plot_in {x : Str} (h : x ∈ ps.map (·.1)) : Fact.plot x (decide (x ∈ keysM L)) ∈ factsM ps nms L := by
  obtain ⟨q, mq, rfl⟩ := List.mem_map.mp h
  exact List.mem_append_left _ (List.mem_map.mpr ⟨q, mq, rfl⟩)
theorem name_in {x : Str} (h : x ∈ nms) : Fact.name x (whereM L x) ∈ factsM ps nms L := List.mem_append_right _ (List.mem_map.mpr ⟨x, h, rfl⟩)
theorem shut_word {r : PL.Row} {x : Str} (h : wantP ps r = some x) : wbM ps r (.plot x false) = "not open" := by
  rw [wbM_shut, if_pos h]
theorem words_some (T : Trees ps) (I : Inv5 ps S L t) (r : PL.Row) (hr : RowAll ps nms r) (hw : wrongM ps L r ≠ "") : ∃ f ∈ factsM ps nms L, wbM ps r f = wrongM ps L r := by
  have hshut : ∀ x, x ∈ ps.map (·.1) → wantP ps r = some x → upM L x ≠ "" → ∃ f ∈ factsM ps nms L, wbM ps r f = upM L x := fun x hx h hu => by
    obtain ⟨h1, h2⟩ := not_up hu
    refine ⟨.plot x false, ?_, by rw [shut_word h, h2]⟩
    have := plot_in (nms := nms) (L := L) hx
    rwa [decide_eq_false h1] at this
  have hlack : ∀ x, x ∈ nms → x ∈ wantN r → kindR r ≠ 3 → ∃ f ∈ factsM ps nms L, wbM ps r f = lackM L x := fun x hx h h3 => ⟨_, name_in hx, wb_lack T I h h3⟩
  cases r with
  | open_ x =>
    have hx := hr.pl x (by simp [plotsR])
    have hw' : openM ps L x ≠ "" := hw
    show ∃ f ∈ _, _ = openM ps L x
    rw [want_open T hx] at hw' ⊢
    by_cases hk : x ∈ keysM L
    · rw [if_pos hk]
      refine ⟨.plot x true, ?_, ?_⟩
      · have := plot_in (nms := nms) (L := L) hx
        rwa [decide_eq_true hk] at this
      · rw [wbM_up, if_neg (show ¬ kindR (.open_ x) = 9 from fun z => by cases z), if_pos rfl]
    · rw [if_neg hk] at hw' ⊢
      cases hwp : wantP ps (.open_ x) with
      | none =>
        rw [hwp] at hw'
        exact absurd rfl hw'
      | some c =>
        rw [hwp] at hw'
        obtain ⟨q, mq, e, hg⟩ := get_mem T.good.nd hx
        have hq : q.2 = some c := by
          have : (getA ps x).getD none = some c := hwp
          rw [hg] at this
          exact this
        exact hshut c (T.outIn q mq c hq) hwp hw'
  | lay n p z => exact hshut p (hr.pl p (by simp [plotsR])) rfl hw
  | copy n o p =>
    have hw' : SM.orW (lackM L o) (upM L p) ≠ "" := hw
    show ∃ f ∈ _, _ = SM.orW (lackM L o) (upM L p)
    unfold SM.orW at hw' ⊢
    by_cases h : lackM L o = ""
    · rw [if_pos h] at hw' ⊢
      exact hshut p (hr.pl p (by simp [plotsR])) rfl hw'
    · rw [if_neg h]
      exact hlack o (hr.nm o (by simp [namesR])) (by simp [wantN]) (fun z => by cases z)
  | same n o =>
    have hw' : (if (getA L.held o).isSome = true then ("" : Str) else "nothing") ≠ "" := hw
    show ∃ f ∈ _, _ = (if (getA L.held o).isSome = true then ("" : Str) else "nothing")
    by_cases h : (getA L.held o).isSome = true
    · rw [if_pos h] at hw'
      exact absurd rfl hw'
    · rw [if_neg h]
      refine ⟨_, name_in (hr.nm o (by simp [namesR])), ?_⟩
      have hn : whereM L o = none := by
        unfold whereM
        rw [Option.not_isSome_iff_eq_none.mp h]
      rw [wbM_name, if_pos (by simp [wantN]), hn]
  | add n o =>
    show ∃ f ∈ _, _ = SM.orW (lackM L n) (lackM L o)
    unfold SM.orW
    by_cases h : lackM L n = ""
    · rw [if_pos h]
      exact hlack o (hr.nm o (by simp [namesR])) (by simp [wantN]) (fun z => by cases z)
    · rw [if_neg h]
      exact hlack n (hr.nm n (by simp [namesR])) (by simp [wantN]) (fun z => by cases z)
  | tell n => exact hlack n (hr.nm n (by simp [namesR])) (by simp [wantN]) (fun z => by cases z)
  | give p => exact hshut p (hr.pl p (by simp [plotsR])) rfl hw
  | fork k => exact absurd rfl hw
  | go k => exact absurd rfl hw
  | end_ =>
    have hw' : (if L.opn = [] then ("" : Str) else "left") ≠ "" := hw
    show ∃ f ∈ _, _ = (if L.opn = [] then ("" : Str) else "left")
    by_cases h : L.opn = []
    · rw [if_pos h] at hw'
      exact absurd rfl hw'
    · rw [if_neg h]
      obtain ⟨q, l, hql⟩ := List.exists_cons_of_ne_nil h
      have mq : q ∈ L.opn := by rw [hql]; exact List.mem_cons_self ..
      have mk : q.1 ∈ keysM L := List.mem_map.mpr ⟨q, mq, rfl⟩
      have mp : q.1 ∈ ps.map (·.1) := I.keys q (by rw [← I.opn]; exact mq)
      refine ⟨.plot q.1 true, ?_, ?_⟩
      · have := plot_in (nms := nms) (L := L) mp
        rwa [decide_eq_true mk] at this
      · rw [wbM_up]
        exact if_pos (show kindR .end_ = 9 from rfl)
theorem words_none (T : Trees ps) (I : Inv5 ps S L t) (r : PL.Row) (hr : RowAll ps nms r) (hw : wrongM ps L r = "") : ∀ f ∈ factsM ps nms L, wbM ps r f = "" := by
  intro f m
  rcases List.mem_append.mp m with m | m
  · obtain ⟨q, mq, rfl⟩ := List.mem_map.mp m
    by_cases hk : q.1 ∈ keysM L
    · rw [decide_eq_true hk, wbM_up]
      by_cases h9 : kindR r = 9
      · exfalso
        cases r with
        | end_ =>
          have hw' : (if L.opn = [] then ("" : Str) else "left") = "" := hw
          by_cases h : L.opn = []
          · unfold keysM at hk
            rw [h] at hk
            cases hk
          · rw [if_neg h] at hw'
            exact absurd hw' (by decide +kernel)
        | _ => cases h9
      · rw [if_neg h9]
        by_cases ho : r = .open_ q.1
        · exfalso
          subst ho
          have hw' : openM ps L q.1 = "" := hw
          unfold openM at hw'
          rw [if_pos hk] at hw'
          exact absurd hw' (by decide +kernel)
        · rw [if_neg ho]
    · rw [decide_eq_false hk, wbM_shut]
      refine if_neg fun hwp => ?_
      cases r with
      | open_ x =>
        have hx := hr.pl x (by simp [plotsR])
        have hw' : openM ps L x = "" := hw
        rw [want_open T hx] at hw'
        by_cases hkx : x ∈ keysM L
        · rw [if_pos hkx] at hw'
          exact absurd hw' (by decide +kernel)
        · rw [if_neg hkx, hwp] at hw'
          exact hk (upM_no hw')
      | lay n p z =>
        cases hwp
        exact hk (upM_no hw)
      | copy n o p =>
        cases hwp
        exact hk (upM_no (orW_no hw).2)
      | give p =>
        cases hwp
        exact hk (upM_no hw)
      | _ => cases hwp
  · obtain ⟨x, mx, rfl⟩ := List.mem_map.mp m
    by_cases hx : x ∈ wantN r
    · cases r with
      | copy n o p =>
        rw [wb_lack T I hx (fun z => by cases z)]
        simp only [wantN, List.mem_cons, List.not_mem_nil, or_false] at hx
        rw [hx]
        exact (orW_no hw).1
      | same n o =>
        rw [wbM_name, if_pos hx]
        simp only [wantN, List.mem_cons, List.not_mem_nil, or_false] at hx
        subst hx
        have hw' : (if (getA L.held x).isSome = true then ("" : Str) else "nothing") = "" := hw
        cases hg : whereM L x with
        | none =>
          exfalso
          have hn : getA L.held x = none := by
            unfold whereM at hg
            cases h : getA L.held x with
            | none => rfl
            | some i =>
              have hi := I.he (x, i) (by rw [← I.held]; exact mem_of_get h)
              rw [h] at hg
              have hi' : i < L.worth.length := by rw [I.worth, List.length_map]; exact hi
              simp only [List.getElem?_eq_getElem hi'] at hg
              cases hg
          rw [hn] at hw'
          exact absurd hw' (by decide +kernel)
        | some z => exact if_neg fun h => h.2 rfl
      | add n o =>
        rw [wb_lack T I hx (fun z => by cases z)]
        simp only [wantN, List.mem_cons, List.not_mem_nil, or_false] at hx
        rcases hx with rfl | rfl
        · exact (orW_no hw).1
        · exact (orW_no hw).2
      | tell n =>
        rw [wb_lack T I hx (fun z => by cases z)]
        simp only [wantN, List.mem_cons, List.not_mem_nil, or_false] at hx
        rw [hx]
        exact hw
      | _ => cases hx
    · rw [wbM_name, if_neg hx]
end
end K09
namespace K09
open PySem L2 PySem.Spec PyProof.Rows PL PR
section
variable {ps : List (Str × Option Str)} {nms : List Str} {S : SM} {L : LS} {t : Nat}
/-! ### how many facts stem -/
theorem fl_count {α β : Type} {f : α → List β} {p q : α → Bool} : ∀ {l : List α}, (∀ a ∈ l, (f a).length + (if p a = true then 1 else 0) = 1 + (if q a = true then 1 else 0)) → (l.flatMap f).length + (l.filter p).length = l.length + (l.filter q).length
  | [], _ => rfl
  | a :: l, h => by
    have ih := fl_count (l := l) fun b m => h b (List.mem_cons_of_mem _ m)
    have ha := h a (List.mem_cons_self ..)
    rw [List.flatMap_cons, List.length_append, List.length_cons]
    by_cases hp : p a = true <;> by_cases hq : q a = true
    · rw [if_pos hp, if_pos hq] at ha
      rw [List.filter_cons_of_pos hp, List.filter_cons_of_pos hq, List.length_cons, List.length_cons]
      omega
    · rw [if_pos hp, if_neg hq] at ha
      rw [List.filter_cons_of_pos hp, List.filter_cons_of_neg hq, List.length_cons]
      omega
    · rw [if_neg hp, if_pos hq] at ha
      rw [List.filter_cons_of_neg hp, List.filter_cons_of_pos hq, List.length_cons]
      omega
    · rw [if_neg hp, if_neg hq] at ha
      rw [List.filter_cons_of_neg hp, List.filter_cons_of_neg hq]
      omega
theorem filt_none {α : Type} (l : List α) : (l.filter fun _ => false).length = 0 := by
  rw [List.filter_eq_nil_iff.mpr fun a _ => Bool.false_ne_true]
  rfl
theorem filt_uniq {x : Str} : ∀ {l : List Str}, l.Nodup → x ∈ l → (l.filter fun y => decide (y = x)).length = 1
  | [], _, m => by cases m
  | y :: l, nd, m => by
    rw [List.nodup_cons] at nd
    rcases List.mem_cons.mp m with e | m
    · subst e
      have : l.filter (fun y => decide (y = x)) = [] := List.filter_eq_nil_iff.mpr fun b mb z => nd.1 (of_decide_eq_true z ▸ mb)
      rw [List.filter_cons_of_pos (by simp), this]
      rfl
    · rw [List.filter_cons_of_neg (by simp; exact fun e => nd.1 (e ▸ m))]
      exact filt_uniq nd.2 m
def facX : Fact → Str | .plot x _ => x | .name x _ => x
theorem filtP {x : Str} (G : PGood ps) (hx : x ∈ ps.map (·.1)) : ((factsP ps L).filter fun f => decide (facX f = x)).length = 1 := by
  unfold factsP
  rw [List.filter_map, List.length_map]
  have := filt_uniq G.nd hx
  rw [List.filter_map, List.length_map] at this
  exact this
theorem filtN {x : Str} (nd : nms.Nodup) (hx : x ∈ nms) : ((factsN nms L).filter fun f => decide (facX f = x)).length = 1 := by
  unfold factsN
  rw [List.filter_map, List.length_map]
  exact filt_uniq nd hx
theorem lenP : (factsP ps L).length = ps.length := by unfold factsP; rw [List.length_map]
theorem lenN : (factsN nms L).length = nms.length := by unfold factsN; rw [List.length_map]
theorem bhP_one (r : PL.Row) (x : Str) (b : Bool) (h : laysR r = true ∧ wantP ps r = some x → False) : (bhP ps r x b).length = 1 := by
  unfold bhP
  split
  · rfl
  · split
    · rfl
    · first
        | rfl
        | (rw [if_neg h]; rfl)
theorem flP (T : Trees ps) (r : PL.Row) (hr : RowAll ps nms r) : ((factsP ps L).flatMap (bhM ps r)).length = ps.length + (if laysR r = true then 1 else 0) := by
  cases hl : laysR r with
  | false =>
    have := fl_count (f := bhM ps r) (p := fun _ => false) (q := fun _ => false) (l := factsP ps L) fun f m => by
      obtain ⟨q, mq, rfl⟩ := List.mem_map.mp m
      show (bhP ps r q.1 _).length + _ = _
      rw [bhP_one r q.1 _ (fun z => by rw [hl] at z; cases z.1)]
    rw [filt_none, lenP] at this
    rw [if_neg Bool.false_ne_true]
    omega
  | true =>
    obtain ⟨p, hp, hpm, hno, hng⟩ : ∃ p, wantP ps r = some p ∧ p ∈ ps.map (·.1) ∧ (∀ x, r ≠ .open_ x) ∧ ∀ x, givesM ps r x = false := by
      cases r with
      | lay n p z => exact ⟨p, rfl, hr.pl p (by simp [plotsR]), (fun x e => by cases e), fun _ => rfl⟩
      | copy n o p => exact ⟨p, rfl, hr.pl p (by simp [plotsR]), (fun x e => by cases e), fun _ => rfl⟩
      | _ => cases hl
    have := fl_count (f := bhM ps r) (p := fun _ => false) (q := fun f => decide (facX f = p)) (l := factsP ps L) fun f m => by
      obtain ⟨q, mq, rfl⟩ := List.mem_map.mp m
      show (bhP ps r q.1 _).length + (if false = true then 1 else 0) = 1 + (if decide (q.1 = p) = true then 1 else 0)
      rw [if_neg Bool.false_ne_true]
      by_cases e : q.1 = p
      · rw [decide_eq_true e, if_pos rfl]
        unfold bhP
        rw [if_neg (hno _), if_neg (by rw [hng]; exact Bool.false_ne_true), if_pos ⟨hl, by rw [hp, e]⟩]
        rfl
      · rw [decide_eq_false e, if_neg Bool.false_ne_true, bhP_one r q.1 _ (fun z => e (Option.some.inj (z.2.symm.trans hp)))]
    rw [filt_none, lenP, filtP T.good hpm] at this
    rw [if_pos rfl]
    omega
theorem flN (nd : nms.Nodup) (r : PL.Row) (hr : RowAll ps nms r) : ((factsN nms L).flatMap (bhM ps r)).length + (if laysR r = true then 1 else 0) = nms.length := by
  have hone : laysR r = false → (∀ n o, r ≠ .same n o) → ((factsN nms L).flatMap (bhM ps r)).length + (if laysR r = true then 1 else 0) = nms.length := fun hl hs => by
    have := fl_count (f := bhM ps r) (p := fun _ => false) (q := fun _ => false) (l := factsN nms L) fun f m => by
      obtain ⟨x, mx, rfl⟩ := List.mem_map.mp m
      show (bhN ps r x (whereM L x)).length + _ = _
      cases r with
      | lay n p z => cases hl
      | copy n o p => cases hl
      | same n o => exact absurd rfl (hs n o)
      | give p =>
        cases whereM L x with
        | none => rfl
        | some z =>
          show (if z ≠ "" ∧ p ∈ outM ps z then [Fact.name x (some "")] else [.name x (some z)]).length + 0 = 1 + 0
          split <;> rfl
      | _ => rfl
    rw [filt_none, lenN] at this
    rw [hl, if_neg Bool.false_ne_true]
    omega
  have hlay : ∀ n, n ∈ nms → laysR r = true → (∀ x w, bhN ps r x w = if n = x then [] else [.name x w]) → ((factsN nms L).flatMap (bhM ps r)).length + (if laysR r = true then 1 else 0) = nms.length := fun n hn hl hb => by
    have := fl_count (f := bhM ps r) (p := fun f => decide (facX f = n)) (q := fun _ => false) (l := factsN nms L) fun f m => by
      obtain ⟨x, mx, rfl⟩ := List.mem_map.mp m
      show (bhN ps r x (whereM L x)).length + (if decide (x = n) = true then 1 else 0) = 1 + (if false = true then 1 else 0)
      rw [hb, if_neg Bool.false_ne_true]
      by_cases e : x = n
      · rw [decide_eq_true e, if_pos rfl, if_pos e.symm]
        rfl
      · rw [decide_eq_false e, if_neg Bool.false_ne_true, if_neg (fun z => e z.symm)]
        rfl
    rw [filt_none, lenN, filtN nd hn] at this
    rw [hl, if_pos rfl]
    omega
  cases r with
  | lay n p z => exact hlay n (hr.nm n (by simp [namesR])) rfl (fun _ _ => rfl)
  | copy n o p => exact hlay n (hr.nm n (by simp [namesR])) rfl (fun _ _ => rfl)
  | same n o =>
    have hn := hr.nm n (by simp [namesR])
    have ho := hr.nm o (by simp [namesR])
    by_cases e : n = o
    · have := fl_count (f := bhM ps (.same n o)) (p := fun _ => false) (q := fun _ => false) (l := factsN nms L) fun f m => by
        obtain ⟨x, mx, rfl⟩ := List.mem_map.mp m
        show (if n = o then [Fact.name x (whereM L x)] else _).length + _ = _
        rw [if_pos e]
        rfl
      rw [filt_none, lenN] at this
      show _ + 0 = _
      omega
    · have := fl_count (f := bhM ps (.same n o)) (p := fun f => decide (facX f = n)) (q := fun f => decide (facX f = o)) (l := factsN nms L) fun f m => by
        obtain ⟨x, mx, rfl⟩ := List.mem_map.mp m
        show (if n = o then [Fact.name x (whereM L x)] else (if x = n then [] else [.name x (whereM L x)]) ++ (if x = o then [.name n (whereM L x)] else [])).length + (if decide (x = n) = true then 1 else 0) = 1 + (if decide (x = o) = true then 1 else 0)
        rw [if_neg e, List.length_append]
        by_cases h1 : x = n
        · have h2 : ¬ x = o := fun z => e (h1.symm.trans z)
          rw [if_pos h1, if_neg h2, decide_eq_true h1, decide_eq_false h2]
          rfl
        · by_cases h2 : x = o
          · rw [if_neg h1, if_pos h2, decide_eq_false h1, decide_eq_true h2]
            rfl
          · rw [if_neg h1, if_neg h2, decide_eq_false h1, decide_eq_false h2]
            rfl
      rw [lenN, filtN nd hn, filtN nd ho] at this
      show _ + 0 = _
      omega
  | open_ x => exact hone rfl (fun _ _ z => by cases z)
  | add n o => exact hone rfl (fun _ _ z => by cases z)
  | tell n => exact hone rfl (fun _ _ z => by cases z)
  | give p => exact hone rfl (fun _ _ z => by cases z)
  | fork k => exact hone rfl (fun _ _ z => by cases z)
  | go k => exact hone rfl (fun _ _ z => by cases z)
  | end_ => exact hone rfl (fun _ _ z => by cases z)
theorem stems_len (T : Trees ps) (nd : nms.Nodup) (r : PL.Row) (hr : RowAll ps nms r) (L' : LS) : ((factsM ps nms L).flatMap (bhM ps r)).length = (factsM ps nms L').length := by
  unfold factsM
  rw [List.flatMap_append, List.length_append, List.length_append, lenP, lenN, flP T r hr]
  have := flN (L := L) nd r hr
  omega
/-! ### each fact behind stems -/
theorem home_eq (I : Inv5 ps S L t) {q : Str × Int} (m : q ∈ L.opn) : homeS L q.2 = q.1 := by
  obtain ⟨q', m', e, h⟩ := home_some (List.mem_map.mpr ⟨q, m, rfl⟩)
  rw [h]
  rw [I.opn] at m m'
  rw [I.ndn q' m' q m e]
theorem where_same {L' : LS} {x : Str} (h1 : getA L'.held x = getA L.held x) (hi : ∀ i, getA L.held x = some i → i < L.worth.length) (h2 : ∀ (i : Nat) (z : Int × Int), L.worth[i]? = some z → ∃ z' : Int × Int, L'.worth[i]? = some z' ∧ z'.2 = z.2) (h3 : ∀ z ∈ L.worth, homeS L' z.2 = homeS L z.2) : whereM L' x = whereM L x := by
  unfold whereM
  rw [h1]
  cases hg : getA L.held x with
  | none => rfl
  | some i =>
    obtain ⟨z, hz⟩ : ∃ z, L.worth[i]? = some z := ⟨_, List.getElem?_eq_getElem (hi i hg)⟩
    obtain ⟨z', hz', e⟩ := h2 i z hz
    simp only [hz, hz']
    rw [e, h3 z (List.mem_of_getElem? hz)]
theorem held_lt (I : Inv5 ps S L t) (x : Str) : ∀ i, getA L.held x = some i → i < L.worth.length := fun i h => by
  have := I.he (x, i) (by rw [← I.held]; exact mem_of_get h)
  rw [I.worth, List.length_map]
  exact this
theorem held_lt' (I : Inv5 ps S L t) : ∀ q ∈ L.held, q.2 < L.worth.length := fun q m => by
  rw [I.worth, List.length_map]
  rw [I.held] at m
  exact I.he q m
theorem name_stays {r : PL.Row} {L' : LS} {x : Str} (hw : whereM L' x = whereM L x) (hb : Fact.name x (whereM L x) ∈ bhN ps r x (whereM L x)) (hx : x ∈ nms) : Fact.name x (whereM L' x) ∈ (factsM ps nms L).flatMap (bhM ps r) := by
  rw [hw]
  exact List.mem_flatMap.mpr ⟨_, name_in hx, hb⟩
theorem plot_stays {r : PL.Row} {x : Str} (hx : x ∈ ps.map (·.1)) (g : Fact) (hb : g ∈ bhP ps r x (decide (x ∈ keysM L))) : g ∈ (factsM ps nms L).flatMap (bhM ps r) := List.mem_flatMap.mpr ⟨_, plot_in hx, hb⟩
theorem bhP_self {r : PL.Row} {x : Str} {b : Bool} (h1 : r ≠ .open_ x) (h2 : givesM ps r x = false) : Fact.plot x b ∈ bhP ps r x b := by
  unfold bhP
  rw [if_neg h1, if_neg (by rw [h2]; exact Bool.false_ne_true)]
  split
  · exact List.mem_cons_self ..
  · exact List.mem_cons_self ..
theorem lay_stems (I : Inv5 ps S L t) (r : PL.Row) (n p : Str) (z : Int) (hn : n ∈ nms) (hp : p ∈ ps.map (·.1)) (hup : p ∈ keysM L) (hl : laysR r = true) (hw : wantP ps r = some p) (hf : firstN r = n) (hno : ∀ x, r ≠ .open_ x) (hng : ∀ x, givesM ps r x = false) (hb : ∀ x w, bhN ps r x w = if n = x then [] else [.name x w]) :
    ∀ g ∈ factsM ps nms (layM L n p z), g ∈ (factsM ps nms L).flatMap (bhM ps r) := by
  intro g m
  rcases List.mem_append.mp m with m | m
  · obtain ⟨q, mq, rfl⟩ := List.mem_map.mp m
    exact plot_stays (List.mem_map.mpr ⟨q, mq, rfl⟩) _ (bhP_self (hno _) (hng _))
  · obtain ⟨x, mx, rfl⟩ := List.mem_map.mp m
    by_cases e : x = n
    · subst e
      have hwh : whereM (layM L x p z) x = some p := by
        obtain ⟨q, mq, e⟩ := List.mem_map.mp hup
        have hg : getA (layM L x p z).held x = some L.worth.length := by
          show getA (putA L.held x L.worth.length) x = _
          rw [getA_put, if_pos rfl]
        have hz : (layM L x p z).worth[L.worth.length]? = some (z, (getA L.opn p).getD 0) := by
          show (L.worth ++ [(z, (getA L.opn p).getD 0)])[L.worth.length]? = _
          rw [List.getElem?_append_right (Nat.le_refl _), Nat.sub_self]
          rfl
        have hn : getA L.opn p = some q.2 := by
          rw [← e]
          exact get_of_mem' (by rw [I.opn]; exact I.nd) mq
        unfold whereM
        simp only [hg, hz]
        rw [hn]
        show some (homeS L q.2) = _
        rw [home_eq I mq, e]
      rw [hwh]
      refine plot_stays hp _ ?_
      unfold bhP
      rw [if_neg (hno _), if_neg (by rw [hng]; exact Bool.false_ne_true), if_pos ⟨hl, hw⟩, hf]
      exact List.mem_cons_of_mem _ (List.mem_cons_self ..)
    · refine name_stays (where_same ?_ (held_lt I x) (fun i z' hz => ⟨z', ?_, rfl⟩) (fun z' _ => rfl)) ?_ mx
      · show getA (putA L.held n L.worth.length) x = _
        rw [getA_put, if_neg e]
      · show (L.worth ++ [(z, (getA L.opn p).getD 0)])[i]? = _
        rw [List.getElem?_append_left (List.getElem?_eq_some_iff.mp hz).1]
        exact hz
      · rw [hb, if_neg (fun z => e z.symm)]
        exact List.mem_cons_self ..
theorem keep_stems (r : PL.Row) {L' : LS} (hk : keysM L' = keysM L) (hw : ∀ x ∈ nms, whereM L' x = whereM L x) (hno : ∀ x, r ≠ .open_ x) (hng : ∀ x, givesM ps r x = false) (hb : ∀ x w, Fact.name x w ∈ bhN ps r x w) : ∀ g ∈ factsM ps nms L', g ∈ (factsM ps nms L).flatMap (bhM ps r) := by
  intro g m
  rcases List.mem_append.mp m with m | m
  · obtain ⟨q, mq, rfl⟩ := List.mem_map.mp m
    rw [hk]
    exact plot_stays (List.mem_map.mpr ⟨q, mq, rfl⟩) _ (bhP_self (hno _) (hng _))
  · obtain ⟨x, mx, rfl⟩ := List.mem_map.mp m
    exact name_stays (hw x mx) (hb ..) mx
theorem stems_in (T : Trees ps) (I : Inv5 ps S L t) (r : PL.Row) (hr : RowAll ps nms r) (hw : wrongM ps L r = "") : ∀ g ∈ factsM ps nms (deedM ps L r), g ∈ (factsM ps nms L).flatMap (bhM ps r) := by
  cases r with
  | open_ x =>
    have hx := hr.pl x (by simp [plotsR])
    have hnk : x ∉ keysM L := fun hk => by
      have h : openM ps L x = "" := hw
      unfold openM at h
      rw [if_pos hk] at h
      exact absurd h (by decide +kernel)
    have hks : keysM (deedM ps L (.open_ x)) = keysM L ++ [x] := by
      show (L.opn ++ [(x, L.many)]).map (·.1) = _
      rw [List.map_append]
      rfl
    intro g m
    rcases List.mem_append.mp m with m | m
    · obtain ⟨q, mq, rfl⟩ := List.mem_map.mp m
      refine plot_stays (List.mem_map.mpr ⟨q, mq, rfl⟩) _ ?_
      rw [hks]
      by_cases e : q.1 = x
      · rw [e, decide_eq_true (List.mem_append_right _ (List.mem_singleton.mpr rfl))]
        unfold bhP
        rw [if_pos rfl]
        exact List.mem_cons_self ..
      · have : decide (q.1 ∈ keysM L ++ [x]) = decide (q.1 ∈ keysM L) := decide_eq_decide.mpr ⟨fun h => (List.mem_append.mp h).elim id fun h => absurd (List.mem_singleton.mp h) e, fun h => List.mem_append_left _ h⟩
        rw [this]
        exact bhP_self (fun z => e (by cases z; rfl)) rfl
    · obtain ⟨y, my, rfl⟩ := List.mem_map.mp m
      refine name_stays (where_same rfl (held_lt I y) (fun i z hz => ⟨z, hz, rfl⟩) (fun z mz => ?_)) (List.mem_cons_self ..) my
      have hlt : z.2 < L.many := by
        rw [I.worth] at mz
        obtain ⟨v, mv, rfl⟩ := List.mem_map.mp mz
        rw [I.many]
        exact I.vnum v mv
      show headS (((L.opn ++ [(x, L.many)]).filter fun q => decide (q.2 = z.2)).map (·.1)) = _
      have hn : [(x, L.many)].filter (fun q : Str × Int => decide (q.2 = z.2)) = [] := List.filter_eq_nil_iff.mpr fun q mq e => by
        rw [List.mem_singleton] at mq
        rw [mq] at e
        have : L.many = z.2 := of_decide_eq_true e
        omega
      rw [List.filter_append, hn, List.append_nil]
      rfl
  | lay n p z => exact lay_stems I (.lay n p z) n p z (hr.nm n (by simp [namesR])) (hr.pl p (by simp [plotsR])) (upM_no hw) rfl rfl rfl (fun x e => by cases e) (fun _ => rfl) (fun _ _ => rfl)
  | copy n o p => exact lay_stems I (.copy n o p) n p (valM L o) (hr.nm n (by simp [namesR])) (hr.pl p (by simp [plotsR])) (upM_no (orW_no hw).2) rfl rfl rfl (fun x e => by cases e) (fun _ => rfl) (fun _ _ => rfl)
  | same n o =>
    have hn := hr.nm n (by simp [namesR])
    have ho := hr.nm o (by simp [namesR])
    have hw' : (if (getA L.held o).isSome = true then ("" : Str) else "nothing") = "" := hw
    obtain ⟨i, hi⟩ : ∃ i, getA L.held o = some i := by
      cases h : getA L.held o with
      | none => rw [h] at hw'; exact absurd hw' (by decide +kernel)
      | some i => exact ⟨i, rfl⟩
    have hd : deedM ps L (.same n o) = { L with held := putA L.held n i } := by
      show (match getA L.held o with | some i => { L with held := putA L.held n i } | none => L : LS) = _
      rw [hi]
    rw [hd]
    intro g m
    rcases List.mem_append.mp m with m | m
    · obtain ⟨q, mq, rfl⟩ := List.mem_map.mp m
      exact plot_stays (List.mem_map.mpr ⟨q, mq, rfl⟩) _ (bhP_self (fun z => by cases z) rfl)
    · obtain ⟨x, mx, rfl⟩ := List.mem_map.mp m
      by_cases e : x = n
      · subst e
        have hwh : whereM { L with held := putA L.held x i } x = whereM L o := by
          unfold whereM
          have hg : getA (putA L.held x i) x = some i := by rw [getA_put, if_pos rfl]
          simp only [hg, hi]
          rfl
        rw [hwh]
        refine List.mem_flatMap.mpr ⟨_, name_in ho, ?_⟩
        show Fact.name x (whereM L o) ∈ (if x = o then [Fact.name o (whereM L o)] else (if o = x then [] else [.name o (whereM L o)]) ++ (if o = o then [.name x (whereM L o)] else []))
        by_cases e : x = o
        · rw [if_pos e, e]
          exact List.mem_cons_self ..
        · rw [if_neg e, if_pos (rfl : o = o)]
          exact List.mem_append_right _ (List.mem_cons_self ..)
      · refine name_stays (where_same ?_ (held_lt I x) (fun i z hz => ⟨z, hz, rfl⟩) (fun z _ => rfl)) ?_ mx
        · show getA (putA L.held n i) x = _
          rw [getA_put, if_neg e]
        · show Fact.name x (whereM L x) ∈ (if n = o then [Fact.name x (whereM L x)] else (if x = n then [] else [.name x (whereM L x)]) ++ (if x = o then [.name n (whereM L x)] else []))
          by_cases e2 : n = o
          · rw [if_pos e2]
            exact List.mem_cons_self ..
          · rw [if_neg e2, if_neg e]
            exact List.mem_append_left _ (List.mem_cons_self ..)
  | add n o =>
    obtain ⟨i, z, h1, h2, h3⟩ := lack_no (held_lt' I) (orW_no hw).1
    have hd : deedM ps L (.add n o) = { L with worth := L.worth.modify i fun q => (q.1 + valM L o, q.2) } := by
      show (match getA L.held n with | some i => { L with worth := L.worth.modify i fun q => (q.1 + valM L o, q.2) } | none => L : LS) = _
      rw [h1]
    rw [hd]
    refine keep_stems (.add n o) rfl (fun x mx => where_same rfl (held_lt I x) (fun j z hz => ?_) (fun z _ => rfl)) (fun x e => by cases e) (fun _ => rfl) (fun _ _ => List.mem_cons_self ..)
    show ∃ z', (L.worth.modify i fun q => (q.1 + valM L o, q.2))[j]? = some z' ∧ _
    rw [List.getElem?_modify, hz]
    exact ⟨(if i = j then (z.1 + valM L o, z.2) else z), rfl, by split <;> rfl⟩
  | tell n => exact keep_stems (.tell n) rfl (fun x mx => where_same rfl (held_lt I x) (fun i z hz => ⟨z, hz, rfl⟩) (fun z _ => rfl)) (fun x e => by cases e) (fun _ => rfl) (fun _ _ => List.mem_cons_self ..)
  | fork k => exact keep_stems (.fork k) rfl (fun x mx => rfl) (fun x e => by cases e) (fun _ => rfl) (fun _ _ => List.mem_cons_self ..)
  | go k => exact keep_stems (.go k) rfl (fun x mx => rfl) (fun x e => by cases e) (fun _ => rfl) (fun _ _ => List.mem_cons_self ..)
  | end_ => exact keep_stems .end_ rfl (fun x mx => rfl) (fun x e => by cases e) (fun _ => rfl) (fun _ _ => List.mem_cons_self ..)
  | give p =>
    have hko : ∀ y, y ∈ keysM (deedM ps L (.give p)) ↔ y ∈ keysM L ∧ p ∉ outM ps y := fun y => by
      show y ∈ (L.opn.filter fun q => decide (p ∉ outM ps q.1)).map (·.1) ↔ _
      constructor
      · intro h
        obtain ⟨q, mq, e⟩ := List.mem_map.mp h
        obtain ⟨m1, m2⟩ := List.mem_filter.mp mq
        rw [← e]
        exact ⟨List.mem_map.mpr ⟨q, m1, rfl⟩, of_decide_eq_true m2⟩
      · rintro ⟨h, h2⟩
        obtain ⟨q, mq, e⟩ := List.mem_map.mp h
        exact List.mem_map.mpr ⟨q, List.mem_filter.mpr ⟨mq, decide_eq_true (by rw [e]; exact h2)⟩, e⟩
    have hho : ∀ n, homeS (deedM ps L (.give p)) n = (if homeS L n ≠ "" ∧ p ∈ outM ps (homeS L n) then ("" : Str) else homeS L n) := fun n => by
      by_cases h : n ∈ L.opn.map (·.2)
      · obtain ⟨q, mq, e, hq⟩ := home_some h
        have hne := key_ne T I mq
        rw [hq]
        by_cases hp : p ∈ outM ps q.1
        · rw [if_pos ⟨hne, hp⟩]
          refine home_none fun h' => ?_
          obtain ⟨q', mq', e'⟩ := List.mem_map.mp h'
          have mq' : q' ∈ L.opn.filter fun q => decide (p ∉ outM ps q.1) := mq'
          obtain ⟨m1, m2⟩ := List.mem_filter.mp mq'
          have : q' = q := I.ndn q' (by rw [← I.opn]; exact m1) q (by rw [← I.opn]; exact mq) (e'.trans e.symm)
          rw [this] at m2
          exact of_decide_eq_true m2 hp
        · rw [if_neg (fun z => hp z.2)]
          have mq2 : q ∈ (deedM ps L (.give p)).opn := List.mem_filter.mpr ⟨mq, decide_eq_true hp⟩
          obtain ⟨q', mq', e', hq'⟩ := home_some (List.mem_map.mpr ⟨q, mq2, e⟩)
          rw [hq']
          have mq' : q' ∈ L.opn.filter fun q => decide (p ∉ outM ps q.1) := mq'
          have : q' = q := I.ndn q' (by rw [← I.opn]; exact (List.mem_filter.mp mq').1) q (by rw [← I.opn]; exact mq) (e'.trans e.symm)
          rw [this]
      · rw [home_none h, if_neg (fun z => z.1 rfl)]
        refine home_none fun h' => h ?_
        obtain ⟨q', mq', e'⟩ := List.mem_map.mp h'
        have mq' : q' ∈ L.opn.filter fun q => decide (p ∉ outM ps q.1) := mq'
        exact List.mem_map.mpr ⟨q', (List.mem_filter.mp mq').1, e'⟩
    intro g m
    rcases List.mem_append.mp m with m | m
    · obtain ⟨q, mq, rfl⟩ := List.mem_map.mp m
      refine plot_stays (List.mem_map.mpr ⟨q, mq, rfl⟩) _ ?_
      by_cases hp : p ∈ outM ps q.1
      · have h1 : q.1 ∉ keysM (deedM ps L (.give p)) := fun z => ((hko _).mp z).2 hp
        rw [decide_eq_false h1]
        unfold bhP
        rw [if_neg (fun z => by cases z), if_pos (show givesM ps (.give p) q.1 = true from decide_eq_true hp)]
        exact List.mem_cons_self ..
      · have h1 : decide (q.1 ∈ keysM (deedM ps L (.give p))) = decide (q.1 ∈ keysM L) := decide_eq_decide.mpr ⟨fun z => ((hko _).mp z).1, fun z => (hko _).mpr ⟨z, hp⟩⟩
        rw [h1]
        exact bhP_self (fun z => by cases z) (show givesM ps (.give p) q.1 = false from decide_eq_false hp)
    · obtain ⟨x, mx, rfl⟩ := List.mem_map.mp m
      refine List.mem_flatMap.mpr ⟨_, name_in mx, ?_⟩
      show Fact.name x (whereM (deedM ps L (.give p)) x) ∈ bhN ps (.give p) x (whereM L x)
      unfold whereM
      have hg : getA (deedM ps L (.give p)).held x = getA L.held x := rfl
      rw [hg]
      cases h : getA L.held x with
      | none => exact List.mem_cons_self ..
      | some i =>
        obtain ⟨z, hz⟩ : ∃ z, L.worth[i]? = some z := ⟨_, List.getElem?_eq_getElem (held_lt I x i h)⟩
        have hz' : (deedM ps L (.give p)).worth[i]? = some z := hz
        simp only [hz, hz']
        rw [hho]
        show _ ∈ (if homeS L z.2 ≠ "" ∧ p ∈ outM ps (homeS L z.2) then [Fact.name x (some "")] else [.name x (some (homeS L z.2))])
        split
        · exact List.mem_cons_self ..
        · exact List.mem_cons_self ..
end
end K09
namespace K09
open PySem L2 PySem.Spec PyProof.Rows PL PR
/-! ### the names, each once -/
theorem callL_inj2 {c : Int} {i j : Nat} {a b a' b' : Nat} (h : callL c i [a, b] = callL c j [a', b']) : a = a' ∧ b = b' := by
  unfold callL at h
  simp only [List.length_cons, List.length_nil] at h
  by_cases he : c % 2 = 0
  · simp only [he, Int.mul_zero, Int.add_zero, if_pos] at h
    have h1 := List.append_cancel_right h
    have h2 := List.append_cancel_left h1
    exact ⟨(List.cons.inj h2).1, (List.cons.inj (List.cons.inj h2).2).1⟩
  · simp only [if_neg he] at h
    have ht : ∀ t n, (callT t n).take n = callT t n ∧ (callT t n).drop n = [] := fun t n => by
      have : (callT t n).length = n := by unfold callT; rw [List.length_map, List.length_range]
      exact ⟨List.take_of_length_le (by omega), List.drop_eq_nil_of_le (by omega)⟩
    rw [(ht _ _).1, (ht _ _).2, (ht _ _).1, (ht _ _).2, List.append_nil, List.append_nil] at h
    have h2 := List.append_inj_right' h rfl
    exact ⟨(List.cons.inj h2).1, (List.cons.inj (List.cons.inj h2).2).1⟩
theorem names_nodup (ns : List Int) : (namesM ns).Nodup := by
  have hle := nmany_le (ns.getD 2 0)
  unfold namesM
  split
  · exact (plots_nodup ns).sublist (List.take_sublist ..)
  · have : ∀ l : List Nat, l.Nodup → (∀ k ∈ l, k < 60) → (l.map (nmM (ns.getD 2 0))).Nodup := fun l hl hk => by
      induction l with
      | nil => exact List.nodup_nil
      | cons a r ih =>
        rw [List.nodup_cons] at hl
        rw [List.map_cons, List.nodup_cons]
        refine ⟨fun m => ?_, ih hl.2 (fun k mk => hk k (List.mem_cons_of_mem _ mk))⟩
        obtain ⟨b, mb, e⟩ := List.mem_map.mp m
        have h1 := congrArg cs e
        have h2 : callL (ns.getD 2 0 / 80) b [97 + b / 26, 122 - b % 26] = callL (ns.getD 2 0 / 80) a [97 + a / 26, 122 - a % 26] := h1
        obtain ⟨e1', e2'⟩ := callL_inj2 h2
        have hb := hk b (List.mem_cons_of_mem _ mb)
        have ha := hk a (List.mem_cons_self ..)
        have : b = a := by omega
        rw [this] at mb
        exact hl.1 mb
    exact this _ List.nodup_range (fun k mk => by rw [List.mem_range] at mk; omega)
theorem callL_len (c : Int) (k : Nat) (sg : List Nat) (h : sg.length ≤ 2) : (callL c k sg).length ≤ 100 := by
  unfold callL
  simp only [List.length_append, List.length_take, List.length_drop]
  have hT : ∀ t n, (callT t n).length = n := fun t n => by unfold callT; rw [List.length_map, List.length_range]
  rw [hT]
  have h1 := Int.emod_nonneg ((c + 31 * (k : Int) * (c % 2)) / 26) (show (9 - (sg.length : Int)) ≠ 0 by omega)
  have h2 := Int.emod_lt_of_pos ((c + 31 * (k : Int) * (c % 2)) / 26) (show 0 < (9 - (sg.length : Int)) by omega)
  omega
theorem plots_short (ns : List Int) : ∀ x ∈ (plotsM ns).map (·.1), x.length ≤ 100000 := fun x m => by
  rw [plots_names] at m
  obtain ⟨k, _, rfl⟩ := List.mem_map.mp m
  have := callL_len (ns.getD 1 0 / 3) k [97 + k] (by show 1 ≤ 2; omega)
  have h2 : (nameM ns k).length = (callL (ns.getD 1 0 / 3) k [97 + k]).length := by
    rw [← cs_len]
    rfl
  omega
section
variable {ps : List (Str × Option Str)} {nms : List Str} {S : SM} {L : LS} {t : Nat}
theorem all_texts (G : PGood ps) (hn : ∀ x ∈ nms, PyData.strOk x = true) {r : PL.Row} (h : RowAll ps nms r) : ∀ x ∈ textsR r, PyData.strOk x = true := by
  have hp : ∀ x ∈ plotsR r, PyData.strOk x = true := fun x m => G.str (h.pl x m)
  have hq : ∀ x ∈ namesR r, PyData.strOk x = true := fun x m => hn x (h.nm x m)
  have h1 : ∀ {a : Str} {l : List Str}, a ∈ a :: l := List.mem_cons_self ..
  have h2 : ∀ {a b : Str} {l : List Str}, b ∈ a :: b :: l := List.mem_cons_of_mem _ (List.mem_cons_self ..)
  intro x m
  cases r with
  | open_ y => rw [List.mem_singleton.mp m]; exact hp _ h1
  | lay n p z =>
    rcases List.mem_cons.mp m with e | m
    · rw [e]; exact hq _ h1
    · rw [List.mem_singleton.mp m]; exact hp _ h1
  | copy n o p =>
    rcases List.mem_cons.mp m with e | m
    · rw [e]; exact hq _ h1
    · rcases List.mem_cons.mp m with e | m
      · rw [e]; exact hq _ h2
      · rw [List.mem_singleton.mp m]; exact hp _ h1
  | same n o =>
    rcases List.mem_cons.mp m with e | m
    · rw [e]; exact hq _ h1
    · rw [List.mem_singleton.mp m]; exact hq _ h2
  | add n o =>
    rcases List.mem_cons.mp m with e | m
    · rw [e]; exact hq _ h1
    · rw [List.mem_singleton.mp m]; exact hq _ h2
  | tell n => rw [List.mem_singleton.mp m]; exact hq _ h1
  | give p => rw [List.mem_singleton.mp m]; exact hp _ h1
  | fork k => cases m
  | go k => cases m
  | end_ => cases m
theorem next_ok (I : Inv5 ps S L t) (hroot : L.opn = [] → ∃ q ∈ ps, wrongM ps L (.open_ q.1) = "") (h1 : 0 < ps.length) (h2 : 0 < nms.length) (c : Int) : wrongM ps L (nextM ps nms L c) = "" ∧ RowAll ps nms (nextM ps nms L c) := by
  have hlay : 0 < L.opn.length → wrongM ps L (layN nms L c) = "" ∧ RowAll ps nms (layN nms L c) := fun hp => by
    have hm := pickS_mem (l := keysM L) (i := c / 10) (by unfold keysM; rw [List.length_map]; exact hp)
    have hk := hm
    rw [keys_eq I] at hk
    obtain ⟨q, mq, e⟩ := List.mem_map.mp hk
    refine ⟨if_pos hm, fun x m => ?_, fun x m => ?_⟩
    · have m : x ∈ [pickS (keysM L) (c / 10)] := m
      rw [List.mem_singleton] at m
      rw [m, keys_eq I, ← e]
      exact I.keys q mq
    · have m : x ∈ [pickS nms (c / 70)] := m
      rw [List.mem_singleton] at m
      rw [m]
      exact pickS_mem h2
  unfold nextM
  split
  · rename_i h
    exact ⟨h.2, rowM_all h1 h2 c 0⟩
  · split
    · split
      · rename_i q hq
        unfold openN at hq
        have m := List.mem_of_find?_eq_some hq
        have e := List.find?_some hq
        have mp : q ∈ ps := (List.mem_append.mp m).elim List.mem_of_mem_drop id
        refine ⟨of_decide_eq_true e, fun x m => ?_, fun x m => by cases m⟩
        have m : x ∈ [q.1] := m
        rw [List.mem_singleton] at m
        rw [m]
        exact List.mem_map.mpr ⟨q, mp, rfl⟩
      · rename_i hf
        refine hlay (List.length_pos_iff.mpr fun e => ?_)
        obtain ⟨q, mq, hq⟩ := hroot e
        unfold openN at hf
        exact List.find?_eq_none.mp hf q (List.mem_append_right _ mq) (decide_eq_true hq)
    · rename_i hlt
      exact hlay (by omega)
theorem root_up (ns : List Int) (L : LS) (e : L.opn = []) : ∃ q ∈ plotsM ns, wrongM (plotsM ns) L (.open_ q.1) = "" := by
  have hm := manyM_le ns
  have hp := pickM_nn ns 0
  refine ⟨plotM ns 0, List.mem_map.mpr ⟨0, List.mem_range.mpr (by omega), rfl⟩, ?_⟩
  have hc := chain_rec ns 0 (by omega)
  rw [if_neg (by omega)] at hc
  show openM (plotsM ns) L (nameM ns 0) = ""
  unfold openM
  rw [hc, if_neg (by unfold keysM; rw [e]; exact List.not_mem_nil)]
theorem noList_fact (f : Fact) : noList (encF f) = true := by
  cases f with
  | plot x b => rfl
  | name x w => cases w <;> rfl
theorem noList_facts : ∀ l : List Fact, noListAll (l.map encF) = true
  | [] => rfl
  | f :: l => by
    show (noList (encF f) && noListAll (l.map encF)) = true
    rw [noList_fact, noList_facts l]
    rfl
theorem noList_row (r : PL.Row) : noList (encR r) = true := by cases r <;> rfl
/-! ### the law -/
abbrev E9 (d0 : PyData) (ps : List (Str × Option Str)) (nms : List Str) (L : LS) (k4 k5 k6 k7 k8 k9 k10 k11 k12 : Sl) : PL.Env := [.sh d0, .sh (encPs ps), .sh (.list (nms.map PyData.str)), .ob (.ls L), k4, k5, k6, k7, k8, k9, k10, k11, k12]
noncomputable def nxtB : PL.Env → Option Out := (sDeed 3 (eVar 1) (eA (fun ds => if ds.length = 4 then (f__law_next ds).bind fun d => if noList d then some d else none else none) (aCons (eVarO 4) (aCons (eVarO 1) (aCons (eVarO 2) (aCons (eLs 3) aNil))))) dmM)
theorem deed_ev {i : Nat} {a b : PL.Env → Option PyData} {env : PL.Env} {r : PL.Row} (h : env[i]? = some (.ob (.ls L))) (ha : a env = some (encPs ps)) (hb : b env = some (encR r)) (ok : OkDeed ps L r) : sDeed i a b dmM env = some (.nx (env.set i (.ob (.ls (deedM ps L r))))) := by
  unfold sDeed
  rw [h]
  simp only [ha, hb, Option.bind_some]
  rw [dm_ev ok]
  rfl
theorem next_turn (T : Trees ps) (I : Inv5 ps S L t) (ht : t ≤ 1000) (h1 : 0 < ps.length) (h2 : 0 < nms.length) (hnl : nms.length ≤ 1000) (hn : ∀ x ∈ nms, PyData.strOk x = true) (hroot : L.opn = [] → ∃ q ∈ ps, wrongM ps L (.open_ q.1) = "") (d0 : PyData) (c : Int) (k5 k6 k7 k8 k9 k10 k11 k12 : Sl) :
    ∃ S' L', Inv5 ps S' L' (t + 1) ∧ nxtB (E9 d0 ps nms L (.sh (.int c)) k5 k6 k7 k8 k9 k10 k11 k12) = some (.nx (E9 d0 ps nms L' (.sh (.int c)) k5 k6 k7 k8 k9 k10 k11 k12)) := by
  have F := fine5 I ht T.good.ok T.good.len
  obtain ⟨hw, ha⟩ := next_ok I hroot h1 h2 c
  have hf : eA (fun ds => if ds.length = 4 then (f__law_next ds).bind fun d => if noList d then some d else none else none) (aCons (eVarO 4) (aCons (eVarO 1) (aCons (eVarO 2) (aCons (eLs 3) aNil)))) (E9 d0 ps nms L (.sh (.int c)) k5 k6 k7 k8 k9 k10 k11 k12) = some (encR (nextM ps nms L c)) := by
    refine call4_ev (f := fun ds => (f__law_next ds).bind fun d => if noList d then some d else none) (x := .int c) rfl (y := encPs ps) rfl (u := .list (nms.map PyData.str)) rfl (v := lsD L) rfl ?_
    show (f__law_next _).bind _ = _
    rw [m_next F h1 h2 hnl hn hroot, Option.bind_some, if_pos (noList_row _)]
  refine ⟨S.change (nextM ps nms L c), deedM ps L (nextM ps nms L c), inv5_deed I T.good.nd _ (fun x e => ha.pl x (by rw [e]; exact List.mem_cons_self ..)) hw, ?_⟩
  unfold nxtB
  rw [deed_ev rfl rfl hf ⟨F, all_texts T.good hn ha, hw⟩]
  rfl
theorem loop1 (ns : List Int) : ∃ S L k4, Inv5 (plotsM ns) S L 20 ∧ sFor (iLS (eL (nSl (eVarO 0) (oSome (eC (.int 6))) (oSome (eC (.int 20)))))) (tgN 4) nxtB (E9 (scrD (ns.map PyData.int)) (plotsM ns) (namesM ns) ls0 .un .un .un .un .un .un .un .un .un) = some (.nx (E9 (scrD (ns.map PyData.int)) (plotsM ns) (namesM ns) L k4 .un .un .un .un .un .un .un .un)) := by
  have hm := manyM_le ns
  have hn := names_len ns
  have h6 : nSl (eVarO 0) (oSome (eC (.int 6))) (oSome (eC (.int 20))) (E9 (scrD (ns.map PyData.int)) (plotsM ns) (namesM ns) ls0 .un .un .un .un .un .un .un .un .un) = some (((ns.drop 6).take 14).map PyData.int) := by
    show some (PL.cutD (ns.map PyData.int) (some ((6 : Nat) : Int)) (some ((20 : Nat) : Int))) = _
    rw [cutD_mid _ _ _ (by omega), List.map_take, List.map_drop]
  have hit : iLS (eL (nSl (eVarO 0) (oSome (eC (.int 6))) (oSome (eC (.int 20))))) (E9 (scrD (ns.map PyData.int)) (plotsM ns) (namesM ns) ls0 .un .un .un .un .un .un .un .un .un) = some (((ns.drop 6).take 14).map PyData.int) := by
    unfold iLS
    rw [eL_ev h6]
    rfl
  have hlen : ((ns.drop 6).take 14).length ≤ 14 := by rw [List.length_take]; omega
  obtain ⟨e', h3, S, L, k4, I, rfl⟩ := for_inv (G := tgN 4) (F := nxtB) (fun k e => ∃ S L k4, Inv5 (plotsM ns) S L k ∧ e = E9 (scrD (ns.map PyData.int)) (plotsM ns) (namesM ns) L k4 .un .un .un .un .un .un .un .un) (((ns.drop 6).take 14).map PyData.int) 0 (E9 (scrD (ns.map PyData.int)) (plotsM ns) (namesM ns) ls0 .un .un .un .un .un .un .un .un .un) ⟨SM0 (plotsM ns), ls0, .un, inv5_start _, rfl⟩
    (fun k x e hx he => by
      rw [Nat.zero_add] at he ⊢
      obtain ⟨S, L, k4, I, rfl⟩ := he
      have hk : k < 14 := by
        have := (List.getElem?_eq_some_iff.mp hx).1
        rw [List.length_map] at this
        omega
      rw [List.getElem?_map] at hx
      obtain ⟨c, _, rfl⟩ := Option.map_eq_some_iff.mp hx
      obtain ⟨S', L', I', h⟩ := next_turn (nms := namesM ns) (trees ns) I (by omega) (by rw [plots_len]; omega) (by omega) (by omega) (names_ok ns) (root_up ns L) (scrD (ns.map PyData.int)) c .un .un .un .un .un .un .un .un
      exact ⟨_, .inl h, S', L', _, I', rfl⟩)
  refine ⟨S, L, k4, ?_, ?_⟩
  · have hz := I.sz
    rw [List.length_map] at hz
    exact { I with sz := by omega }
  · unfold sFor
    rw [hit, Option.bind_some, h3]
theorem in_facts {x : PyData} {l : List PyData} (hx : SeqAt.shaped x = true) (hl : SeqAt.shaped (.list l) = true) (m : x ∈ l) (he : PyData.eqv x x = true) : gInL true x (.list l) = some (.bool false) := by
  unfold gInL
  show (if SeqAt.shaped x && SeqAt.shaped (.list l) then some (PyData.bool (if true then !(l.any fun z => PyData.eqv z x) else _)) else none) = _
  rw [hx, hl]
  have : (l.any fun z => PyData.eqv z x) = true := List.any_eq_true.mpr ⟨x, m, he⟩
  rw [this]
  rfl
theorem wbM_ok (ps : List (Str × Option Str)) (r : PL.Row) (f : Fact) : PyData.strOk (wbM ps r f) = true := by
  cases f with
  | plot x b =>
    cases b with
    | true =>
      rw [wbM_up]
      split
      · decide +kernel
      · split <;> decide +kernel
    | false =>
      rw [wbM_shut]
      split <;> decide +kernel
  | name x w =>
    rw [wbM_name]
    split
    · cases w with
      | none => exact (by decide +kernel : PyData.strOk ("nothing" : Str) = true)
      | some z =>
        show PyData.strOk (if z = "" ∧ kindR r ≠ 3 then ("gone" : Str) else ("" : Str)) = true
        split <;> decide +kernel
    · decide +kernel
theorem facts_ok (T : Trees ps) (I : Inv5 ps S L t) (hn : ∀ x ∈ nms, PyData.strOk x = true) : ∀ f ∈ factsM ps nms L, okF f := by
  intro f m
  rcases List.mem_append.mp m with m | m
  · obtain ⟨q, mq, rfl⟩ := List.mem_map.mp m
    exact T.good.str (List.mem_map.mpr ⟨q, mq, rfl⟩)
  · obtain ⟨x, mx, rfl⟩ := List.mem_map.mp m
    refine ⟨hn x mx, fun z e => ?_⟩
    rcases where_lack I x with ⟨_, b⟩ | ⟨_, b⟩ | ⟨_, q, mq, b⟩
    · rw [b] at e; cases e
    · rw [b] at e; cases e; decide +kernel
    · rw [b] at e
      cases e
      rw [I.opn] at mq
      exact T.good.str (I.keys q mq)
theorem facts_short (T : Trees ps) (I : Inv5 ps S L t) (hps : ∀ x ∈ ps.map (·.1), x.length ≤ 100000) : ∀ f ∈ factsM ps nms L, ∀ x w z, f = .name x w → w = some z → z.length ≤ 100000 := by
  intro f m x w z e1' e2'
  rcases List.mem_append.mp m with m | m
  · obtain ⟨q, mq, rfl⟩ := List.mem_map.mp m
    cases e1'
  · obtain ⟨y, my, rfl⟩ := List.mem_map.mp m
    cases e1'
    rcases where_lack I x with ⟨_, b⟩ | ⟨_, b⟩ | ⟨_, q, mq, b⟩
    · rw [b] at e2'; cases e2'
    · rw [b] at e2'; cases e2'; decide +kernel
    · rw [b] at e2'
      cases e2'
      rw [I.opn] at mq
      exact hps _ (I.keys q mq)
end
end K09
namespace K09
open PySem L2 PySem.Spec PyProof.Rows PL PR
section
variable {ps : List (Str × Option Str)} {nms : List Str} {S : SM} {L : LS} {t : Nat}
theorem bh_len (ps : List (Str × Option Str)) (r : PL.Row) (f : Fact) : (bhM ps r f).length ≤ 2 := by
  cases f with
  | plot x b =>
    show (bhP ps r x b).length ≤ 2
    unfold bhP
    split
    · show 1 ≤ 2; omega
    · split
      · show 1 ≤ 2; omega
      · split
        · show 2 ≤ 2; omega
        · show 1 ≤ 2; omega
  | name x w =>
    show (bhN ps r x w).length ≤ 2
    cases r with
    | same n o =>
      show (if n = o then [Fact.name x w] else (if x = n then [] else [.name x w]) ++ (if x = o then [.name n w] else [])).length ≤ 2
      split
      · show 1 ≤ 2; omega
      · rw [List.length_append]
        split <;> split <;> simp
    | lay n p z =>
      show (if n = x then [] else [Fact.name x w]).length ≤ 2
      split <;> simp
    | copy n o p =>
      show (if n = x then [] else [Fact.name x w]).length ≤ 2
      split <;> simp
    | give p =>
      cases w with
      | none => show 1 ≤ 2; omega
      | some z =>
        show (if z ≠ "" ∧ p ∈ outM ps z then [Fact.name x (some "")] else [.name x (some z)]).length ≤ 2
        split <;> simp
    | _ => show 1 ≤ 2; omega
theorem facts_ev (T : Trees ps) (I : Inv5 ps S L t) (ht : t ≤ 1000) (hnl : nms.length ≤ 1000) (d0 : PyData) (k4 k5 k6 k7 k8 k9 k10 k11 k12 : Sl) : eL (fun env => ((aCons (eVarO 1) (aCons (eVarO 2) (aCons (eLs 3) aNil))) env).bind fun ds => if ds.length = 3 then (f__law_facts ds).bind fun es => if noListAll es then some es else none else none) (E9 d0 ps nms L k4 k5 k6 k7 k8 k9 k10 k11 k12) = some (.list ((factsM ps nms L).map encF)) := by
  have F := fine5 I ht T.good.ok T.good.len
  refine eL_ev ?_
  show (f__law_facts [encPs ps, .list (nms.map PyData.str), lsD L]).bind _ = _
  rw [m_facts T.good F.hk F.hh F.ho hnl, Option.bind_some, if_pos (noList_facts _)]
theorem words_ev (T : Trees ps) (I : Inv5 ps S L t) (hnl : nms.length ≤ 1000) (hn : ∀ x ∈ nms, PyData.strOk x = true) (r : PL.Row) (hr : RowOf ps r) (d0 : PyData) (k4 k7 k8 k9 k10 k11 k12 : Sl) : nLc (iLS (eVarO 6)) (tgN 10) (fun _ => some true) (eA (fun ds => if ds.length = 3 then f_wrong_by ds else none) (aCons (eL (nList (aCons (eVarO 1) aNil))) (aCons (eVar 5) (aCons (eVar 10) aNil)))) [10] (E9 d0 ps nms L k4 (.sh (encR r)) (.sh (.list ((factsM ps nms L).map encF))) k7 k8 k9 k10 k11 k12) = some (((factsM ps nms L).map (wbM ps r)).map PyData.str) := by
  have hok := facts_ok (nms := nms) T I hn
  have hlen : (factsM ps nms L).length ≤ 2000 := by
    unfold factsM
    rw [List.length_append, lenP, lenN]
    have := T.good.len
    omega
  have hi : iLS (eVarO 6) (E9 d0 ps nms L k4 (.sh (encR r)) (.sh (.list ((factsM ps nms L).map encF))) k7 k8 k9 k10 k11 k12) = some ((factsM ps nms L).map encF) := rfl
  unfold nLc
  rw [hi, Option.bind_some, if_pos (by rw [List.length_map]; omega)]
  have hall : ∀ l : List Fact, (∀ f ∈ l, okF f) → lcGo (tgN 10) (fun _ => some true) (eA (fun ds => if ds.length = 3 then f_wrong_by ds else none) (aCons (eL (nList (aCons (eVarO 1) aNil))) (aCons (eVar 5) (aCons (eVar 10) aNil)))) (wipeE (E9 d0 ps nms L k4 (.sh (encR r)) (.sh (.list ((factsM ps nms L).map encF))) k7 k8 k9 k10 k11 k12) [10]) (l.map encF) = some ((l.map (wbM ps r)).map PyData.str) := fun l => by
    induction l with
    | nil => intro _; rfl
    | cons f l ih =>
      intro h
      have ih := ih fun g m => h g (List.mem_cons_of_mem _ m)
      have he : eA (fun ds => if ds.length = 3 then f_wrong_by ds else none) (aCons (eL (nList (aCons (eVarO 1) aNil))) (aCons (eVar 5) (aCons (eVar 10) aNil))) (E9 d0 ps nms L k4 (.sh (encR r)) (.sh (.list ((factsM ps nms L).map encF))) k7 k8 k9 (.sh (encF f)) k11 k12) = some (.str (wbM ps r f)) := call3_ev (x := encPs ps) rfl (y := encR r) rfl (u := encF f) rfl (m_wrong_by T.good r hr f (h f (List.mem_cons_self ..)))
      show ((eA _ _ (E9 d0 ps nms L k4 (.sh (encR r)) (.sh (.list ((factsM ps nms L).map encF))) k7 k8 k9 (.sh (encF f)) k11 k12)).bind fun d => (lcGo _ _ _ _ (l.map encF)).map (d :: ·)) = _
      rw [he, Option.bind_some, ih]
      rfl
  exact hall _ hok
def stemB : PL.Env → Option Out := (sExt 9 (eL (fun env => ((aCons (eL (nList (aCons (eVarO 1) aNil))) (aCons (eVar 5) (aCons (eVar 10) aNil))) env).bind fun ds => if ds.length = 3 then f_behind ds else none)))
theorem stems_ev (T : Trees ps) (I : Inv5 ps S L t) (hnl : nms.length ≤ 1000) (hn : ∀ x ∈ nms, PyData.strOk x = true) (hps : ∀ x ∈ ps.map (·.1), x.length ≤ 100000) (r : PL.Row) (hr : RowOf ps r) (d0 : PyData) (k4 k7 k8 k10 k11 k12 : Sl) : ∃ j10, sFor (iLS (eVar 6)) (tgN 10) stemB (E9 d0 ps nms L k4 (.sh (encR r)) (.sh (.list ((factsM ps nms L).map encF))) k7 k8 (.own []) k10 k11 k12) = some (.nx (E9 d0 ps nms L k4 (.sh (encR r)) (.sh (.list ((factsM ps nms L).map encF))) k7 k8 (.own (((factsM ps nms L).flatMap (bhM ps r)).map encF)) j10 k11 k12)) := by
  have hok := facts_ok (nms := nms) T I hn
  have hsh := facts_short (nms := nms) T I hps
  have hlen : (factsM ps nms L).length ≤ 2000 := by
    unfold factsM
    rw [List.length_append, lenP, lenN]
    have := T.good.len
    omega
  have hb2 : ∀ f, (bhM ps r f).length ≤ 2 := fun f => bh_len ps r f
  have hfl : ∀ l : List Fact, (l.flatMap (bhM ps r)).length ≤ 2 * l.length := fun l => by
    induction l with
    | nil => exact Nat.le_refl _
    | cons f l ih =>
      rw [List.flatMap_cons, List.length_append, List.length_cons]
      have := hb2 f
      omega
  have hall : ∀ (l acc : List Fact) (k10 : Sl), acc.length + 2 * l.length ≤ 50000 → (∀ f ∈ l, f ∈ factsM ps nms L) → ∃ j10, fGo (tgN 10) stemB (l.map encF) (E9 d0 ps nms L k4 (.sh (encR r)) (.sh (.list ((factsM ps nms L).map encF))) k7 k8 (.own (acc.map encF)) k10 k11 k12) = some (.nx (E9 d0 ps nms L k4 (.sh (encR r)) (.sh (.list ((factsM ps nms L).map encF))) k7 k8 (.own ((acc ++ l.flatMap (bhM ps r)).map encF)) j10 k11 k12)) := fun l => by
    induction l with
    | nil =>
      intro acc k10 _ _
      refine ⟨k10, ?_⟩
      rw [List.flatMap_nil, List.append_nil]
      rfl
    | cons f l ih =>
      intro acc k10 hl hm
      have hbf := hb2 f
      rw [List.length_cons] at hl
      have hf := hm f (List.mem_cons_self ..)
      have he : eL (fun env => ((aCons (eL (nList (aCons (eVarO 1) aNil))) (aCons (eVar 5) (aCons (eVar 10) aNil))) env).bind fun ds => if ds.length = 3 then f_behind ds else none) (E9 d0 ps nms L k4 (.sh (encR r)) (.sh (.list ((factsM ps nms L).map encF))) k7 k8 (.own (acc.map encF)) (.sh (encF f)) k11 k12) = some (.list ((bhM ps r f).map encF)) := eL_ev (m_behind T.good r hr f (hok f hf) (hsh f hf))
      have hx : stemB (E9 d0 ps nms L k4 (.sh (encR r)) (.sh (.list ((factsM ps nms L).map encF))) k7 k8 (.own (acc.map encF)) (.sh (encF f)) k11 k12) = some (.nx (E9 d0 ps nms L k4 (.sh (encR r)) (.sh (.list ((factsM ps nms L).map encF))) k7 k8 (.own ((acc ++ bhM ps r f).map encF)) (.sh (encF f)) k11 k12)) := by
        unfold stemB
        rw [ext_nx (ds := acc.map encF) rfl he (by rw [List.length_map, List.length_map]; omega), List.map_append]
        rfl
      obtain ⟨j10, h⟩ := ih (acc ++ bhM ps r f) (.sh (encF f)) (by rw [List.length_append]; omega) (fun g m => hm g (List.mem_cons_of_mem _ m))
      refine ⟨j10, ?_⟩
      rw [List.map_cons, fgo_nx (e1 := E9 d0 ps nms L k4 (.sh (encR r)) (.sh (.list ((factsM ps nms L).map encF))) k7 k8 (.own (acc.map encF)) (.sh (encF f)) k11 k12) rfl hx, h, List.flatMap_cons, List.append_assoc]
  obtain ⟨j10, h⟩ := hall (factsM ps nms L) [] k10 (by show 0 + _ ≤ _; omega) (fun f m => m)
  exact ⟨j10, h⟩
theorem law_math (ns : List Int) (hl : ns.length ≤ 63) : f_law dmM [scrD (ns.map PyData.int)] = some (.bool true) := by
  have hm := manyM_le ns
  have hn := names_len ns
  have hnok := names_ok ns
  have T := trees ns
  have hpl : 0 < (plotsM ns).length := by rw [plots_len]; omega
  unfold f_law fnD F_law
  have h0 : fEnv 13 [scrD (ns.map PyData.int)] = [.sh (scrD (ns.map PyData.int)), .un, .un, .un, .un, .un, .un, .un, .un, .un, .un, .un, .un] := rfl
  rw [h0, seq_asg (callN1_ev rfl (m_plots ns))]
  dsimp only [List.set]
  rw [seq_asg (callN2_ev (x := scrD (ns.map PyData.int)) (y := encPs (plotsM ns)) rfl rfl (m_names ns))]
  dsimp only [List.set]
  refine Eq.trans (congrArg outD (seq_nx (e := E9 (scrD (ns.map PyData.int)) (plotsM ns) (namesM ns) ls0 .un .un .un .un .un .un .un .un .un) rfl)) ?_
  obtain ⟨S, L, k4, I, hgo⟩ := loop1 ns
  refine Eq.trans (congrArg outD (seq_nx hgo)) ?_
  have hra := rowM_all (ps := plotsM ns) (nms := namesM ns) hpl (by omega) (ns.getD 5 0) 9
  have hro := row_of (nms := namesM ns) T.good hpl (by omega) hnok (ns.getD 5 0) 9
  have hrow : eA (fun ds => if ds.length = 4 then f__law_row ds else none) (aCons (eA (fun ds => if ds.length = 2 then f__law_at ds else none) (aCons (eVar 0) (aCons (eC (.int 5)) aNil))) (aCons (eVar 1) (aCons (eVar 2) (aCons (eC (.int 9)) aNil)))) (E9 (scrD (ns.map PyData.int)) (plotsM ns) (namesM ns) L k4 .un .un .un .un .un .un .un .un) = some (encR (rowM (plotsM ns) (namesM ns) (ns.getD 5 0) 9)) := call4_ev (at5_ev rfl) (y := encPs (plotsM ns)) rfl (u := .list ((namesM ns).map PyData.str)) rfl (v := .int 9) rfl (m_row _ _ _ _ hpl (by omega) (by omega))
  generalize rowM (plotsM ns) (namesM ns) (ns.getD 5 0) 9 = r at hra hro hrow
  refine Eq.trans (congrArg outD (seq_asg hrow)) ?_
  dsimp only [List.set]
  refine Eq.trans (congrArg outD (seq_asg (facts_ev T I (by omega) (by omega) ..))) ?_
  dsimp only [List.set]
  refine Eq.trans (congrArg outD (seq_nx (own_nx (words_ev T I (by omega) hnok r hro ..)))) ?_
  refine Eq.trans (congrArg outD (free_ev rfl)) ?_
  dsimp only [List.set]
  have F := fine5 I (by omega) T.good.ok T.good.len
  have hwd : ∀ k7 k8 k9 k10 k11 k12, eA (fun ds => if ds.length = 3 then (f__law_wrong ds).bind fun d => if noList d then some d else none else none) (aCons (eVarO 1) (aCons (eLs 3) (aCons (eVarO 5) aNil))) (E9 (scrD (ns.map PyData.int)) (plotsM ns) (namesM ns) L k4 (.sh (encR r)) (.sh (.list ((factsM (plotsM ns) (namesM ns) L).map encF))) k7 k8 k9 k10 k11 k12) = some (.str (wrongM (plotsM ns) L r)) := fun k7 k8 k9 k10 k11 k12 => by
    refine call3_ev (f := fun ds => (f__law_wrong ds).bind fun d => if noList d then some d else none) (x := encPs (plotsM ns)) rfl (y := lsD L) rfl (u := encR r) rfl ?_
    show (f__law_wrong _).bind _ = _
    rw [m_wrong F.hp F.hpl F.hk F.hh F.ho r hro.1]
    rfl
  refine Eq.trans (congrArg outD (seq_asg (hwd ..))) ?_
  dsimp only [List.set]
  have hwok : PyData.strOk (wrongM (plotsM ns) L r) = true := wrong_ok ..
  have hne : ∀ k7 k9 k10 k11 k12, tE (e2 gNe (eVarO 8) (eC (.str ""))) (E9 (scrD (ns.map PyData.int)) (plotsM ns) (namesM ns) L k4 (.sh (encR r)) (.sh (.list ((factsM (plotsM ns) (namesM ns) L).map encF))) k7 (.sh (.str (wrongM (plotsM ns) L r))) k9 k10 k11 k12) = some (!decide (wrongM (plotsM ns) L r = "")) := fun _ _ _ _ _ => nez_ev rfl rfl hwok (by decide +kernel)
  by_cases hw : wrongM (plotsM ns) L r = ""
  · rw [decide_eq_true hw] at hne
    refine Eq.trans (congrArg outD (rl_no (hne ..))) ?_
    have hno := words_none T I r hra hw
    have hc : ∀ k8 k9 k10 k11, nLc (iLS (eVarO 7)) (tgN 12) (tE (e2 gNe (eVarO 12) (eC (.str "")))) (eVar 12) [12] (E9 (scrD (ns.map PyData.int)) (plotsM ns) (namesM ns) L k4 (.sh (encR r)) (.sh (.list ((factsM (plotsM ns) (namesM ns) L).map encF))) (.sh (.list (((factsM (plotsM ns) (namesM ns) L).map (wbM (plotsM ns) r)).map PyData.str))) k8 k9 k10 k11 .un) = some [] := fun k8 k9 k10 k11 => by
      have hi : iLS (eVarO 7) (E9 (scrD (ns.map PyData.int)) (plotsM ns) (namesM ns) L k4 (.sh (encR r)) (.sh (.list ((factsM (plotsM ns) (namesM ns) L).map encF))) (.sh (.list (((factsM (plotsM ns) (namesM ns) L).map (wbM (plotsM ns) r)).map PyData.str))) k8 k9 k10 k11 .un) = some (((factsM (plotsM ns) (namesM ns) L).map (wbM (plotsM ns) r)).map PyData.str) := rfl
      unfold nLc
      rw [hi, Option.bind_some, if_pos (by
        rw [List.length_map, List.length_map]
        unfold factsM
        rw [List.length_append, lenP, lenN, plots_len]
        omega)]
      rw [lc_gen (fun d => E9 (scrD (ns.map PyData.int)) (plotsM ns) (namesM ns) L k4 (.sh (encR r)) (.sh (.list ((factsM (plotsM ns) (namesM ns) L).map encF))) (.sh (.list (((factsM (plotsM ns) (namesM ns) L).map (wbM (plotsM ns) r)).map PyData.str))) k8 k9 k10 k11 (.sh d)) (fun _ => false) (fun d => d)]
      · rw [List.filter_eq_nil_iff.mpr (fun a _ => Bool.false_ne_true)]
        rfl
      · intro d m
        rfl
      · intro d m
        obtain ⟨z, mz, rfl⟩ := List.mem_map.mp m
        obtain ⟨f, mf, rfl⟩ := List.mem_map.mp mz
        rw [nez_ev (w := wbM (plotsM ns) r f) (z := "") rfl rfl (wbM_ok ..) (by decide +kernel), hno f mf, decide_eq_true rfl]
        rfl
      · intro d m h
        cases h
    refine Eq.trans (congrArg outD (rl_no (ne_same (d := .list []) (eL_ev (hc ..)) rfl rfl rfl))) ?_
    refine Eq.trans (congrArg outD (seq_nx (own_nx (ds := []) rfl))) ?_
    dsimp only [List.set]
    obtain ⟨j10, hst⟩ := stems_ev (nms := namesM ns) T I (by omega) hnok (plots_short ns) r hro (scrD (ns.map PyData.int)) k4 (.sh (.list (((factsM (plotsM ns) (namesM ns) L).map (wbM (plotsM ns) r)).map PyData.str))) (.sh (.str (wrongM (plotsM ns) L r))) .un .un .un
    refine Eq.trans (congrArg outD (seq_nx (F := sFor (iLS (eVar 6)) (tgN 10) stemB) hst)) ?_
    have hif : ∀ k7 k8 k9 k10 k11 k12, sIf (tE (e2 (gInT true) (e2 gIx (eVarO 5) (eC (.int 0))) (eTup (aCons (eC (.str "fork")) (aCons (eC (.str "go")) (aCons (eC (.str "end")) aNil)))))) (sDeed 3 (eVar 1) (eVar 5) dmM) sNext (E9 (scrD (ns.map PyData.int)) (plotsM ns) (namesM ns) L k4 (.sh (encR r)) (.sh (.list ((factsM (plotsM ns) (namesM ns) L).map encF))) k7 k8 k9 k10 k11 k12) = some (.nx (E9 (scrD (ns.map PyData.int)) (plotsM ns) (namesM ns) (deedM (plotsM ns) L r) k4 (.sh (encR r)) (.sh (.list ((factsM (plotsM ns) (namesM ns) L).map encF))) k7 k8 k9 k10 k11 k12)) := fun k7 k8 k9 k10 k11 k12 => by
      have ht := int_ev (neg := true) (x := wordR r) (l := ["fork", "go", "end"]) (a := e2 gIx (eVarO 5) (eC (.int 0))) (b := eTup (aCons (eC (.str "fork")) (aCons (eC (.str "go")) (aCons (eC (.str "end")) aNil)))) (env := E9 (scrD (ns.map PyData.int)) (plotsM ns) (namesM ns) L k4 (.sh (encR r)) (.sh (.list ((factsM (plotsM ns) (namesM ns) L).map encF))) k7 k8 k9 k10 k11 k12) (word_ev rfl) rfl
      rw [if_pos rfl] at ht
      by_cases hin : wordR r ∈ (["fork", "go", "end"] : List Str)
      · rw [decide_eq_true hin] at ht
        rw [if_no ht]
        have : deedM (plotsM ns) L r = L := by
          have h3 : kindR r = 7 ∨ kindR r = 8 ∨ kindR r = 9 := by
            have : wordR r = wtab 7 ∨ wordR r = wtab 8 ∨ wordR r = wtab 9 := by
              have hin' : wordR r ∈ [wtab 7, wtab 8, wtab 9] := hin
              simpa only [List.mem_cons, List.not_mem_nil, or_false] using hin'
            rcases this with h | h | h
            · exact .inl (of_decide_eq_true ((weq r (j := 7) (by decide)).symm.trans (decide_eq_true h)))
            · exact .inr (.inl (of_decide_eq_true ((weq r (j := 8) (by decide)).symm.trans (decide_eq_true h))))
            · exact .inr (.inr (of_decide_eq_true ((weq r (j := 9) (by decide)).symm.trans (decide_eq_true h))))
          cases r <;> first | rfl | (rcases h3 with h | h | h <;> cases h)
        rw [this]
        rfl
      · rw [decide_eq_false hin] at ht
        rw [if_yes ht]
        exact deed_ev rfl rfl rfl ⟨F, hro.1, hw⟩
    refine Eq.trans (congrArg outD (seq_nx (hif ..))) ?_
    have I' := inv5_deed I T.good.nd r hro.2 hw
    refine Eq.trans (congrArg outD (seq_asg (facts_ev T I' (by omega) (by omega) ..))) ?_
    dsimp only [List.set]
    have hlen := stems_len (L := L) T (names_nodup ns) r hra (deedM (plotsM ns) L r)
    have hmem := stems_in T I r hra hw
    have hok' := facts_ok (nms := namesM ns) T I' hnok
    have hokS : ∀ g ∈ (factsM (plotsM ns) (namesM ns) L).flatMap (bhM (plotsM ns) r), okF g := fun g m => by
      obtain ⟨f, mf, mg⟩ := List.mem_flatMap.mp m
      exact bhM_ok hro.1 (facts_ok (nms := namesM ns) T I hnok f mf) g mg
    generalize hS : (factsM (plotsM ns) (namesM ns) L).flatMap (bhM (plotsM ns) r) = Sx at hlen hmem hokS
    generalize hD : factsM (plotsM ns) (namesM ns) (deedM (plotsM ns) L r) = Dx at hlen hmem hok'
    have hDl : Dx.length ≤ 100 := by
      rw [← hD]
      unfold factsM
      rw [List.length_append, lenP, lenN, plots_len]
      omega
    have hc2 : ∀ k4 k5 k6 k7 k8, nLc (iLS (eVarO 11)) (tgN 10) (tE (e2 (gInL true) (eVarO 10) (eVarO 9))) (eVar 10) [10] (E9 (scrD (ns.map PyData.int)) (plotsM ns) (namesM ns) (deedM (plotsM ns) L r) k4 k5 k6 k7 k8 (.own (Sx.map encF)) j10 (.sh (.list (Dx.map encF))) .un) = some [] := fun k4 k5 k6 k7 k8 => by
      have hi : iLS (eVarO 11) (E9 (scrD (ns.map PyData.int)) (plotsM ns) (namesM ns) (deedM (plotsM ns) L r) k4 k5 k6 k7 k8 (.own (Sx.map encF)) j10 (.sh (.list (Dx.map encF))) .un) = some (Dx.map encF) := rfl
      unfold nLc
      rw [hi, Option.bind_some, if_pos (by rw [List.length_map]; omega)]
      rw [lc_gen (fun d => E9 (scrD (ns.map PyData.int)) (plotsM ns) (namesM ns) (deedM (plotsM ns) L r) k4 k5 k6 k7 k8 (.own (Sx.map encF)) (.sh d) (.sh (.list (Dx.map encF))) .un) (fun _ => false) (fun d => d)]
      · rw [List.filter_eq_nil_iff.mpr (fun a _ => Bool.false_ne_true)]
        rfl
      · intro d m
        rfl
      · intro d m
        obtain ⟨g, mg, rfl⟩ := List.mem_map.mp m
        exact te2r_ev (x := encF g) (y := .list (Sx.map encF)) rfl rfl (in_facts ((fit_fact (hok' g mg)).sh (by omega)) ((fit_facts hokS).sh (by omega)) (List.mem_map.mpr ⟨g, hmem g mg, rfl⟩) (eqv_fact g))
      · intro d m h
        cases h
    have hle : tE (e2 gEq (eA gLen (aCons (eVarO 9) aNil)) (eA gLen (aCons (eVarO 11) aNil))) (E9 (scrD (ns.map PyData.int)) (plotsM ns) (namesM ns) (deedM (plotsM ns) L r) k4 (.sh (encR r)) (.sh (.list ((factsM (plotsM ns) (namesM ns) L).map encF))) (.sh (.list (((factsM (plotsM ns) (namesM ns) L).map (wbM (plotsM ns) r)).map PyData.str))) (.sh (.str (wrongM (plotsM ns) L r))) (.own (Sx.map encF)) j10 (.sh (.list (Dx.map encF))) .un) = some true := by
      refine (eqi_ev (lenl_ev (ds := Sx.map encF) rfl) (lenl_ev (ds := Dx.map encF) rfl)).trans (congrArg some ?_)
      rw [List.length_map, List.length_map, hlen]
      exact decide_eq_true rfl
    unfold sRet
    refine Eq.trans (congrArg (fun o => outD (Option.map Out.rt o)) (andb_ev (x := true) (y := true) hle (fun _ => same_ev (d := .list []) (eL_ev (hc2 ..)) rfl rfl rfl))) ?_
    rfl
  · rw [decide_eq_false hw] at hne
    refine Eq.trans (congrArg outD (rl_yes (hne ..))) ?_
    obtain ⟨f, mf, hf⟩ := words_some T I r hra hw
    have hin : e2 (gInL false) (eVarO 8) (eVarO 7) (E9 (scrD (ns.map PyData.int)) (plotsM ns) (namesM ns) L k4 (.sh (encR r)) (.sh (.list ((factsM (plotsM ns) (namesM ns) L).map encF))) (.sh (.list (((factsM (plotsM ns) (namesM ns) L).map (wbM (plotsM ns) r)).map PyData.str))) (.sh (.str (wrongM (plotsM ns) L r))) .un .un .un .un) = some (.bool true) := by
      refine tv_ev ((ins_ev (neg := false) (x := wrongM (plotsM ns) L r) (l := (factsM (plotsM ns) (namesM ns) L).map (wbM (plotsM ns) r)) rfl rfl hwok (fun y m => ?_)).trans (congrArg some ?_))
      · obtain ⟨g, _, rfl⟩ := List.mem_map.mp m
        exact wbM_ok ..
      · rw [if_neg Bool.false_ne_true]
        exact decide_eq_true (List.mem_map.mpr ⟨f, mf, hf⟩)
    refine Eq.trans (congrArg outD (rt_ev hin)) ?_
    rfl
end
end K09
namespace K09
open PySem L2 PySem.Spec PyProof.Rows PL

theorem fnok_weak {P : Program} {w : World} {K : PySem.W.Frag} {mg : Str → Option Value} {base : Heap} {CX : CXT} {k : Nat} {f : Addr} {fd : FuncData} {ps : List Str} {sp sp' : Sp} (F : FnOk P w K mg base CX k f fd ps sp) (h : ∀ vs H Q E, sp' vs H Q E → sp vs H Q E) : FnOk P w K mg base CX k f fd ps sp' :=
  ⟨fun vs H Q E q => F.len vs H Q E (h vs H Q E q), fun A outer s H args us vs Q E hr he hb hv q => F.run A outer s H args us vs Q E hr he hb hv (h vs H Q E q)⟩
def spLaw (K : PySem.W.Frag) : Sp := fun vs H Q _ => ∃ (a : Addr) (ns : List Int), vs = [.ref a] ∧ SqL K H a (ns.map V.int) ∧ ns.length ≤ 63 ∧ ∀ H', Q (.bl true) H'
theorem all_mk {l : PySem.W.OpenLaw} {w : World} {K : PySem.W.Frag} {h : Heap} {mg : Str → Option Value} {fa : Addr} (X : K.In h) (G : h.Ns mainGlobals mg) (hfa : mg "law" = some (.ref fa))
    {od1 od2 od3 od4 od5 od6 od7 od8 od9 od10 od11 od12 od13 od14 od15 od16 od17 od18 od19 od20 od21 od22 od23 od24 an1 an2 an3 an4 an5 an6 an7 an8 an9 an10 an11 an12 an13 an14 an15 an16 an17 an18 an19 an20 an21 an22 an23 an24 : Option Addr} {sl1 sl2 sl3 sl4 sl5 sl6 sl7 sl8 sl9 sl10 sl11 sl12 sl13 sl14 sl15 sl16 sl17 sl18 sl19 sl20 sl21 sl22 sl23 sl24 : Array (Option Value)} {oc1 kV1 dc1 pm1 cd1 ct1 oc2 kV2 dc2 pm2 cd2 ct2 oc3 kV3 dc3 pm3 cd3 ct3 oc4 kV4 dc4 pm4 cd4 ct4 oc5 kV5 dc5 pm5 cd5 ct5 oc6 kV6 dc6 pm6 cd6 ct6 oc7 kV7 dc7 pm7 cd7 ct7 oc8 kV8 dc8 pm8 cd8 ct8 oc9 kV9 dc9 pm9 cd9 ct9 oc10 kV10 dc10 pm10 cd10 ct10 oc11 kV11 dc11 pm11 cd11 ct11 oc12 kV12 dc12 pm12 cd12 ct12 oc13 kV13 dc13 pm13 cd13 ct13 oc14 kV14 dc14 pm14 cd14 ct14 oc15 kV15 dc15 pm15 cd15 ct15 oc16 kV16 dc16 pm16 cd16 ct16 oc17 kV17 dc17 pm17 cd17 ct17 oc18 kV18 dc18 pm18 cd18 ct18 oc19 kV19 dc19 pm19 cd19 ct19 oc20 kV20 dc20 pm20 cd20 ct20 oc21 kV21 dc21 pm21 cd21 ct21 oc22 kV22 dc22 pm22 cd22 ct22 oc23 kV23 dc23 pm23 cd23 ct23 oc24 kV24 dc24 pm24 cd24 ct24 : Value} {f1 f2 f3 f4 f5 f6 f7 f8 f9 f10 f11 f12 f13 f14 f15 f16 f17 f18 f19 f20 f21 f22 f23 f24 : Addr}
    (a1 : PySem.W.nsIn K mainGlobals "outward" = some (some (.ref f1)))
    (l1 : K.lookup f1 = some ⟨oc1, od1, .func (PySem.W.fnOf "outward" "outward" (defArgs s_outward) (defBody s_outward) (defScope s_outward) .none kV1 dc1 pm1 an1 cd1 ct1), sl1⟩)
    (c1 : PySem.W.codeIn K cd1 "outward" = true)
    (k1 : PySem.W.keepIn K (.ref f1) = true)
    (a2 : PySem.W.nsIn K mainGlobals "wrong_by" = some (some (.ref f2)))
    (l2 : K.lookup f2 = some ⟨oc2, od2, .func (PySem.W.fnOf "wrong_by" "wrong_by" (defArgs s_wrong_by) (defBody s_wrong_by) (defScope s_wrong_by) .none kV2 dc2 pm2 an2 cd2 ct2), sl2⟩)
    (c2 : PySem.W.codeIn K cd2 "wrong_by" = true)
    (k2 : PySem.W.keepIn K (.ref f2) = true)
    (a3 : PySem.W.nsIn K mainGlobals "wrong_by_open" = some (some (.ref f3)))
    (l3 : K.lookup f3 = some ⟨oc3, od3, .func (PySem.W.fnOf "wrong_by_open" "wrong_by_open" (defArgs s_wrong_by_open) (defBody s_wrong_by_open) (defScope s_wrong_by_open) .none kV3 dc3 pm3 an3 cd3 ct3), sl3⟩)
    (c3 : PySem.W.codeIn K cd3 "wrong_by_open" = true)
    (k3 : PySem.W.keepIn K (.ref f3) = true)
    (a4 : PySem.W.nsIn K mainGlobals "wrong_by_name" = some (some (.ref f4)))
    (l4 : K.lookup f4 = some ⟨oc4, od4, .func (PySem.W.fnOf "wrong_by_name" "wrong_by_name" (defArgs s_wrong_by_name) (defBody s_wrong_by_name) (defScope s_wrong_by_name) .none kV4 dc4 pm4 an4 cd4 ct4), sl4⟩)
    (c4 : PySem.W.codeIn K cd4 "wrong_by_name" = true)
    (k4 : PySem.W.keepIn K (.ref f4) = true)
    (a5 : PySem.W.nsIn K mainGlobals "wanted_plot" = some (some (.ref f5)))
    (l5 : K.lookup f5 = some ⟨oc5, od5, .func (PySem.W.fnOf "wanted_plot" "wanted_plot" (defArgs s_wanted_plot) (defBody s_wanted_plot) (defScope s_wanted_plot) .none kV5 dc5 pm5 an5 cd5 ct5), sl5⟩)
    (c5 : PySem.W.codeIn K cd5 "wanted_plot" = true)
    (k5 : PySem.W.keepIn K (.ref f5) = true)
    (a6 : PySem.W.nsIn K mainGlobals "wanted_names" = some (some (.ref f6)))
    (l6 : K.lookup f6 = some ⟨oc6, od6, .func (PySem.W.fnOf "wanted_names" "wanted_names" (defArgs s_wanted_names) (defBody s_wanted_names) (defScope s_wanted_names) .none kV6 dc6 pm6 an6 cd6 ct6), sl6⟩)
    (c6 : PySem.W.codeIn K cd6 "wanted_names" = true)
    (k6 : PySem.W.keepIn K (.ref f6) = true)
    (a7 : PySem.W.nsIn K mainGlobals "behind" = some (some (.ref f7)))
    (l7 : K.lookup f7 = some ⟨oc7, od7, .func (PySem.W.fnOf "behind" "behind" (defArgs s_behind) (defBody s_behind) (defScope s_behind) .none kV7 dc7 pm7 an7 cd7 ct7), sl7⟩)
    (c7 : PySem.W.codeIn K cd7 "behind" = true)
    (k7 : PySem.W.keepIn K (.ref f7) = true)
    (a8 : PySem.W.nsIn K mainGlobals "behind_plot" = some (some (.ref f8)))
    (l8 : K.lookup f8 = some ⟨oc8, od8, .func (PySem.W.fnOf "behind_plot" "behind_plot" (defArgs s_behind_plot) (defBody s_behind_plot) (defScope s_behind_plot) .none kV8 dc8 pm8 an8 cd8 ct8), sl8⟩)
    (c8 : PySem.W.codeIn K cd8 "behind_plot" = true)
    (k8 : PySem.W.keepIn K (.ref f8) = true)
    (a9 : PySem.W.nsIn K mainGlobals "behind_name" = some (some (.ref f9)))
    (l9 : K.lookup f9 = some ⟨oc9, od9, .func (PySem.W.fnOf "behind_name" "behind_name" (defArgs s_behind_name) (defBody s_behind_name) (defScope s_behind_name) .none kV9 dc9 pm9 an9 cd9 ct9), sl9⟩)
    (c9 : PySem.W.codeIn K cd9 "behind_name" = true)
    (k9 : PySem.W.keepIn K (.ref f9) = true)
    (a10 : PySem.W.nsIn K mainGlobals "lays" = some (some (.ref f10)))
    (l10 : K.lookup f10 = some ⟨oc10, od10, .func (PySem.W.fnOf "lays" "lays" (defArgs s_lays) (defBody s_lays) (defScope s_lays) .none kV10 dc10 pm10 an10 cd10 ct10), sl10⟩)
    (c10 : PySem.W.codeIn K cd10 "lays" = true)
    (k10 : PySem.W.keepIn K (.ref f10) = true)
    (a11 : PySem.W.nsIn K mainGlobals "gives_back" = some (some (.ref f11)))
    (l11 : K.lookup f11 = some ⟨oc11, od11, .func (PySem.W.fnOf "gives_back" "gives_back" (defArgs s_gives_back) (defBody s_gives_back) (defScope s_gives_back) .none kV11 dc11 pm11 an11 cd11 ct11), sl11⟩)
    (c11 : PySem.W.codeIn K cd11 "gives_back" = true)
    (k11 : PySem.W.keepIn K (.ref f11) = true)
    (a12 : PySem.W.nsIn K mainGlobals "_law_at" = some (some (.ref f12)))
    (l12 : K.lookup f12 = some ⟨oc12, od12, .func (PySem.W.fnOf "_law_at" "_law_at" (defArgs s__law_at) (defBody s__law_at) (defScope s__law_at) .none kV12 dc12 pm12 an12 cd12 ct12), sl12⟩)
    (c12 : PySem.W.codeIn K cd12 "_law_at" = true)
    (k12 : PySem.W.keepIn K (.ref f12) = true)
    (a13 : PySem.W.nsIn K mainGlobals "_law_called" = some (some (.ref f13)))
    (l13 : K.lookup f13 = some ⟨oc13, od13, .func (PySem.W.fnOf "_law_called" "_law_called" (defArgs s__law_called) (defBody s__law_called) (defScope s__law_called) .none kV13 dc13 pm13 an13 cd13 ct13), sl13⟩)
    (c13 : PySem.W.codeIn K cd13 "_law_called" = true)
    (k13 : PySem.W.keepIn K (.ref f13) = true)
    (a14 : PySem.W.nsIn K mainGlobals "_law_plots" = some (some (.ref f14)))
    (l14 : K.lookup f14 = some ⟨oc14, od14, .func (PySem.W.fnOf "_law_plots" "_law_plots" (defArgs s__law_plots) (defBody s__law_plots) (defScope s__law_plots) .none kV14 dc14 pm14 an14 cd14 ct14), sl14⟩)
    (c14 : PySem.W.codeIn K cd14 "_law_plots" = true)
    (k14 : PySem.W.keepIn K (.ref f14) = true)
    (a15 : PySem.W.nsIn K mainGlobals "_law_names" = some (some (.ref f15)))
    (l15 : K.lookup f15 = some ⟨oc15, od15, .func (PySem.W.fnOf "_law_names" "_law_names" (defArgs s__law_names) (defBody s__law_names) (defScope s__law_names) .none kV15 dc15 pm15 an15 cd15 ct15), sl15⟩)
    (c15 : PySem.W.codeIn K cd15 "_law_names" = true)
    (k15 : PySem.W.keepIn K (.ref f15) = true)
    (a16 : PySem.W.nsIn K mainGlobals "_law_row" = some (some (.ref f16)))
    (l16 : K.lookup f16 = some ⟨oc16, od16, .func (PySem.W.fnOf "_law_row" "_law_row" (defArgs s__law_row) (defBody s__law_row) (defScope s__law_row) .none kV16 dc16 pm16 an16 cd16 ct16), sl16⟩)
    (c16 : PySem.W.codeIn K cd16 "_law_row" = true)
    (k16 : PySem.W.keepIn K (.ref f16) = true)
    (a17 : PySem.W.nsIn K mainGlobals "_law_outward" = some (some (.ref f17)))
    (l17 : K.lookup f17 = some ⟨oc17, od17, .func (PySem.W.fnOf "_law_outward" "_law_outward" (defArgs s__law_outward) (defBody s__law_outward) (defScope s__law_outward) .none kV17 dc17 pm17 an17 cd17 ct17), sl17⟩)
    (c17 : PySem.W.codeIn K cd17 "_law_outward" = true)
    (k17 : PySem.W.keepIn K (.ref f17) = true)
    (a18 : PySem.W.nsIn K mainGlobals "_law_fresh" = some (some (.ref f18)))
    (l18 : K.lookup f18 = some ⟨oc18, od18, .func (PySem.W.fnOf "_law_fresh" "_law_fresh" (defArgs s__law_fresh) (defBody s__law_fresh) (defScope s__law_fresh) .none kV18 dc18 pm18 an18 cd18 ct18), sl18⟩)
    (c18 : PySem.W.codeIn K cd18 "_law_fresh" = true)
    (k18 : PySem.W.keepIn K (.ref f18) = true)
    (a19 : PySem.W.nsIn K mainGlobals "_law_lack" = some (some (.ref f19)))
    (l19 : K.lookup f19 = some ⟨oc19, od19, .func (PySem.W.fnOf "_law_lack" "_law_lack" (defArgs s__law_lack) (defBody s__law_lack) (defScope s__law_lack) .none kV19 dc19 pm19 an19 cd19 ct19), sl19⟩)
    (c19 : PySem.W.codeIn K cd19 "_law_lack" = true)
    (k19 : PySem.W.keepIn K (.ref f19) = true)
    (a20 : PySem.W.nsIn K mainGlobals "_law_wrong" = some (some (.ref f20)))
    (l20 : K.lookup f20 = some ⟨oc20, od20, .func (PySem.W.fnOf "_law_wrong" "_law_wrong" (defArgs s__law_wrong) (defBody s__law_wrong) (defScope s__law_wrong) .none kV20 dc20 pm20 an20 cd20 ct20), sl20⟩)
    (c20 : PySem.W.codeIn K cd20 "_law_wrong" = true)
    (k20 : PySem.W.keepIn K (.ref f20) = true)
    (a21 : PySem.W.nsIn K mainGlobals "_law_deed" = some (some (.ref f21)))
    (l21 : K.lookup f21 = some ⟨oc21, od21, .func (PySem.W.fnOf "_law_deed" "_law_deed" (defArgs s__law_deed) (defBody s__law_deed) (defScope s__law_deed) .none kV21 dc21 pm21 an21 cd21 ct21), sl21⟩)
    (c21 : PySem.W.codeIn K cd21 "_law_deed" = true)
    (k21 : PySem.W.keepIn K (.ref f21) = true)
    (a22 : PySem.W.nsIn K mainGlobals "_law_next" = some (some (.ref f22)))
    (l22 : K.lookup f22 = some ⟨oc22, od22, .func (PySem.W.fnOf "_law_next" "_law_next" (defArgs s__law_next) (defBody s__law_next) (defScope s__law_next) .none kV22 dc22 pm22 an22 cd22 ct22), sl22⟩)
    (c22 : PySem.W.codeIn K cd22 "_law_next" = true)
    (k22 : PySem.W.keepIn K (.ref f22) = true)
    (a23 : PySem.W.nsIn K mainGlobals "_law_facts" = some (some (.ref f23)))
    (l23 : K.lookup f23 = some ⟨oc23, od23, .func (PySem.W.fnOf "_law_facts" "_law_facts" (defArgs s__law_facts) (defBody s__law_facts) (defScope s__law_facts) .none kV23 dc23 pm23 an23 cd23 ct23), sl23⟩)
    (c23 : PySem.W.codeIn K cd23 "_law_facts" = true)
    (k23 : PySem.W.keepIn K (.ref f23) = true)
    (a24 : PySem.W.nsIn K mainGlobals "law" = some (some (.ref f24)))
    (l24 : K.lookup f24 = some ⟨oc24, od24, .func (PySem.W.fnOf "law" "law" (defArgs s_law) (defBody s_law) (defScope s_law) .none kV24 dc24 pm24 an24 cd24 ct24), sl24⟩)
    (c24 : PySem.W.codeIn K cd24 "law" = true)
    (k24 : PySem.W.keepIn K (.ref f24) = true)
    (z_dict : PySem.W.nsIn K mainGlobals "dict" = some none)
    (z_len : PySem.W.nsIn K mainGlobals "len" = some none)
    (z_list : PySem.W.nsIn K mainGlobals "list" = some none)
    (z_range : PySem.W.nsIn K mainGlobals "range" = some none)
    (z_reversed : PySem.W.nsIn K mainGlobals "reversed" = some none) :
    ∃ fd : FuncData, (∀ (s : Shared) (v : Value), BindsTo s fd ⟨[v], []⟩ [("_law_script", v)]) ∧ ∀ base : Heap, K.In base → base.Ns mainGlobals mg → FnOk l.prog w K mg base CX0 5 fa fd ["_law_script"] (spLaw K) := by
  have e := hfa.symm.trans (PySem.W.mg_of X G a24)
  cases e
  have T : Bt mg := ⟨PySem.W.mg_none_of X G z_dict, PySem.W.mg_none_of X G z_len, PySem.W.mg_none_of X G z_list, PySem.W.mg_none_of X G z_range, PySem.W.mg_none_of X G z_reversed⟩
  have F1 := fun_mk (st := s_outward) l1 c1 k1
  have b1 := F1.binds (ps := ["plots", "plot"]) fun _ _ _ _ _ _ us hl => match us, hl with | [_, _], _ => rfl
  have F2 := fun_mk (st := s_wrong_by) l2 c2 k2
  have b2 := F2.binds (ps := ["plots", "row", "fact"]) fun _ _ _ _ _ _ us hl => match us, hl with | [_, _, _], _ => rfl
  have F3 := fun_mk (st := s_wrong_by_open) l3 c3 k3
  have b3 := F3.binds (ps := ["row", "plot"]) fun _ _ _ _ _ _ us hl => match us, hl with | [_, _], _ => rfl
  have F4 := fun_mk (st := s_wrong_by_name) l4 c4 k4
  have b4 := F4.binds (ps := ["row", "name", "where"]) fun _ _ _ _ _ _ us hl => match us, hl with | [_, _, _], _ => rfl
  have F5 := fun_mk (st := s_wanted_plot) l5 c5 k5
  have b5 := F5.binds (ps := ["plots", "row"]) fun _ _ _ _ _ _ us hl => match us, hl with | [_, _], _ => rfl
  have F6 := fun_mk (st := s_wanted_names) l6 c6 k6
  have b6 := F6.binds (ps := ["row"]) fun _ _ _ _ _ _ us hl => match us, hl with | [_], _ => rfl
  have F7 := fun_mk (st := s_behind) l7 c7 k7
  have b7 := F7.binds (ps := ["plots", "row", "fact"]) fun _ _ _ _ _ _ us hl => match us, hl with | [_, _, _], _ => rfl
  have F8 := fun_mk (st := s_behind_plot) l8 c8 k8
  have b8 := F8.binds (ps := ["plots", "row", "fact"]) fun _ _ _ _ _ _ us hl => match us, hl with | [_, _, _], _ => rfl
  have F9 := fun_mk (st := s_behind_name) l9 c9 k9
  have b9 := F9.binds (ps := ["plots", "row", "fact"]) fun _ _ _ _ _ _ us hl => match us, hl with | [_, _, _], _ => rfl
  have F10 := fun_mk (st := s_lays) l10 c10 k10
  have b10 := F10.binds (ps := ["row"]) fun _ _ _ _ _ _ us hl => match us, hl with | [_], _ => rfl
  have F11 := fun_mk (st := s_gives_back) l11 c11 k11
  have b11 := F11.binds (ps := ["plots", "row", "plot"]) fun _ _ _ _ _ _ us hl => match us, hl with | [_, _, _], _ => rfl
  have F12 := fun_mk (st := s__law_at) l12 c12 k12
  have b12 := F12.binds (ps := ["_law_script", "_law_k"]) fun _ _ _ _ _ _ us hl => match us, hl with | [_, _], _ => rfl
  have F13 := fun_mk (st := s__law_called) l13 c13 k13
  have b13 := F13.binds (ps := ["_law_cell", "_law_k", "_law_signs"]) fun _ _ _ _ _ _ us hl => match us, hl with | [_, _, _], _ => rfl
  have F14 := fun_mk (st := s__law_plots) l14 c14 k14
  have b14 := F14.binds (ps := ["_law_script"]) fun _ _ _ _ _ _ us hl => match us, hl with | [_], _ => rfl
  have F15 := fun_mk (st := s__law_names) l15 c15 k15
  have b15 := F15.binds (ps := ["_law_script", "_law_plots_here"]) fun _ _ _ _ _ _ us hl => match us, hl with | [_, _], _ => rfl
  have F16 := fun_mk (st := s__law_row) l16 c16 k16
  have b16 := F16.binds (ps := ["_law_cell", "_law_plots_here", "_law_names_here", "_law_size"]) fun _ _ _ _ _ _ us hl => match us, hl with | [_, _, _, _], _ => rfl
  have F17 := fun_mk (st := s__law_outward) l17 c17 k17
  have b17 := F17.binds (ps := ["_law_plots_here", "_law_plot"]) fun _ _ _ _ _ _ us hl => match us, hl with | [_, _], _ => rfl
  have F18 := fun_mk (st := s__law_fresh) l18 c18 k18
  have b18 := F18.binds (ps := []) fun _ _ _ _ _ _ us hl => match us, hl with | [], _ => rfl
  have F19 := fun_mk (st := s__law_lack) l19 c19 k19
  have b19 := F19.binds (ps := ["_law_state", "_law_name"]) fun _ _ _ _ _ _ us hl => match us, hl with | [_, _], _ => rfl
  have F20 := fun_mk (st := s__law_wrong) l20 c20 k20
  have b20 := F20.binds (ps := ["_law_plots_here", "_law_state", "_law_row_here"]) fun _ _ _ _ _ _ us hl => match us, hl with | [_, _, _], _ => rfl
  have F21 := fun_mk (st := s__law_deed) l21 c21 k21
  have b21 := F21.binds (ps := ["_law_plots_here", "_law_state", "_law_row_here"]) fun _ _ _ _ _ _ us hl => match us, hl with | [_, _, _], _ => rfl
  have F22 := fun_mk (st := s__law_next) l22 c22 k22
  have b22 := F22.binds (ps := ["_law_cell", "_law_plots_here", "_law_names_here", "_law_state"]) fun _ _ _ _ _ _ us hl => match us, hl with | [_, _, _, _], _ => rfl
  have F23 := fun_mk (st := s__law_facts) l23 c23 k23
  have b23 := F23.binds (ps := ["_law_plots_here", "_law_names_here", "_law_state"]) fun _ _ _ _ _ _ us hl => match us, hl with | [_, _, _], _ => rfl
  have F24 := fun_mk (st := s_law) l24 c24 k24
  have b24 := F24.binds (ps := ["_law_script"]) fun _ _ _ _ _ _ us hl => match us, hl with | [_], _ => rfl
  refine ⟨PySem.W.fnOf "law" "law" (defArgs s_law) (defBody s_law) (defScope s_law) .none kV24 dc24 pm24 an24 cd24 ct24, fun s v => .of_eq rfl, fun base _ _ => ?_⟩
  have Coutward : CalN l.prog w K mg base 1 "outward" 2 ["plots", "plot"] f_outward := ⟨_, _, ok_outward F1 T , PySem.W.mg_of X G a1, k1, b1⟩
  have Cwanted_plot : Cal l.prog w K mg base 1 "wanted_plot" 2 ["plots", "row"] f_wanted_plot := ⟨_, _, ok_wanted_plot F5 T , PySem.W.mg_of X G a5, k5, b5⟩
  have Cwanted_names : Cal l.prog w K mg base 1 "wanted_names" 1 ["row"] f_wanted_names := ⟨_, _, ok_wanted_names F6 T , PySem.W.mg_of X G a6, k6, b6⟩
  have Cwrong_by_open : Cal l.prog w K mg base 1 "wrong_by_open" 2 ["row", "plot"] f_wrong_by_open := ⟨_, _, ok_wrong_by_open F3 T , PySem.W.mg_of X G a3, k3, b3⟩
  have Cwrong_by_name : Cal l.prog w K mg base 2 "wrong_by_name" 3 ["row", "name", "where"] f_wrong_by_name := ⟨_, _, ok_wrong_by_name F4 T Cwanted_names, PySem.W.mg_of X G a4, k4, b4⟩
  have Cwrong_by : Cal l.prog w K mg base 3 "wrong_by" 3 ["plots", "row", "fact"] f_wrong_by := ⟨_, _, ok_wrong_by F2 T Cwrong_by_name Cwrong_by_open Cwanted_plot, PySem.W.mg_of X G a2, k2, b2⟩
  have Clays : Cal l.prog w K mg base 1 "lays" 1 ["row"] f_lays := ⟨_, _, ok_lays F10 T , PySem.W.mg_of X G a10, k10, b10⟩
  have Cgives_back : Cal l.prog w K mg base 2 "gives_back" 3 ["plots", "row", "plot"] f_gives_back := ⟨_, _, ok_gives_back F11 T Coutward, PySem.W.mg_of X G a11, k11, b11⟩
  have Cbehind_plot : CalN l.prog w K mg base 3 "behind_plot" 3 ["plots", "row", "fact"] f_behind_plot := ⟨_, _, ok_behind_plot F8 T Cgives_back Cwanted_plot Clays, PySem.W.mg_of X G a8, k8, b8⟩
  have Cbehind_name : CalN l.prog w K mg base 3 "behind_name" 3 ["plots", "row", "fact"] f_behind_name := ⟨_, _, ok_behind_name F9 T Clays Cgives_back, PySem.W.mg_of X G a9, k9, b9⟩
  have Cbehind : CalN l.prog w K mg base 4 "behind" 3 ["plots", "row", "fact"] f_behind := ⟨_, _, ok_behind F7 T Cbehind_name Cbehind_plot, PySem.W.mg_of X G a7, k7, b7⟩
  have C_law_at : Cal l.prog w K mg base 1 "_law_at" 2 ["_law_script", "_law_k"] f__law_at := ⟨_, _, ok__law_at F12 T , PySem.W.mg_of X G a12, k12, b12⟩
  have C_law_called : Cal l.prog w K mg base 1 "_law_called" 3 ["_law_cell", "_law_k", "_law_signs"] f__law_called := ⟨_, _, ok__law_called F13 T , PySem.W.mg_of X G a13, k13, b13⟩
  have C_law_plots : CalN l.prog w K mg base 2 "_law_plots" 1 ["_law_script"] f__law_plots := ⟨_, _, ok__law_plots F14 T C_law_at C_law_called, PySem.W.mg_of X G a14, k14, b14⟩
  have C_law_names : CalN l.prog w K mg base 2 "_law_names" 2 ["_law_script", "_law_plots_here"] f__law_names := ⟨_, _, ok__law_names F15 T C_law_at C_law_called, PySem.W.mg_of X G a15, k15, b15⟩
  have C_law_row : Cal l.prog w K mg base 1 "_law_row" 4 ["_law_cell", "_law_plots_here", "_law_names_here", "_law_size"] f__law_row := ⟨_, _, ok__law_row F16 T , PySem.W.mg_of X G a16, k16, b16⟩
  have C_law_outward : CalN l.prog w K mg base 1 "_law_outward" 2 ["_law_plots_here", "_law_plot"] f__law_outward := ⟨_, _, ok__law_outward F17 T , PySem.W.mg_of X G a17, k17, b17⟩
  have C_law_fresh : CalF l.prog w K mg base 1 "_law_fresh" := ⟨_, _, ok__law_fresh F18, PySem.W.mg_of X G a18, k18, b18⟩
  have C_law_lack : Cal l.prog w K mg base 1 "_law_lack" 2 ["_law_state", "_law_name"] f__law_lack := ⟨_, _, ok__law_lack F19 T , PySem.W.mg_of X G a19, k19, b19⟩
  have C_law_wrong : Cal l.prog w K mg base 2 "_law_wrong" 3 ["_law_plots_here", "_law_state", "_law_row_here"] f__law_wrong := ⟨_, _, ok__law_wrong F20 T C_law_outward C_law_lack, PySem.W.mg_of X G a20, k20, b20⟩
  have C_law_deed : CalM l.prog w K mg base 2 "_law_deed" 3 1 ["_law_plots_here", "_law_state", "_law_row_here"] f__law_deed := ⟨_, _, ok__law_deed F21 T C_law_outward, PySem.W.mg_of X G a21, k21, b21⟩
  have C_law_next : Cal l.prog w K mg base 3 "_law_next" 4 ["_law_cell", "_law_plots_here", "_law_names_here", "_law_state"] f__law_next := ⟨_, _, ok__law_next F22 T C_law_row C_law_wrong, PySem.W.mg_of X G a22, k22, b22⟩
  have C_law_facts : CalN l.prog w K mg base 1 "_law_facts" 3 ["_law_plots_here", "_law_names_here", "_law_state"] f__law_facts := ⟨_, _, ok__law_facts F23 T , PySem.W.mg_of X G a23, k23, b23⟩
  have GL := ok_law F24 T C_law_plots C_law_names C_law_fresh C_law_deed deed_math C_law_next C_law_row C_law_at C_law_facts Cwrong_by C_law_wrong Cbehind
  refine fnok_weak GL fun vs H Q E hq => ?_
  obtain ⟨a, ns, rfl, hS, hlen, k⟩ := hq
  refine ⟨fun _ => false, [scrD (ns.map PyData.int)], .bool true, rfl, (fun _ z => by cases z), .cons (.scr (ex_l vis_no hS)) .nil, law_math ns hlen, fun v H' _ _ r => ?_⟩
  cases r
  exact k H'
theorem walk {l : PySem.W.OpenLaw} {q : Program} {loose : List Str} {XP : (Str → Option Value) → Heap → Prop} {YP : World → Heap → Prop} {d : DefRec} {K : Params → PySem.W.Frag} (hn : l.most = some 63) (hdf : d.params.defaults = [])
    (hY : ∀ (w : World) (h : Heap), YP w h → (K w.params).In h)
    (F : ∀ (w : World) (mg : Str → Option Value) (fa : Addr) (h : Heap), (K w.params).In h → h.Ns mainGlobals mg → mg d.name = some (.ref fa) →
      ∃ fd : FuncData, (∀ (s : Shared) (u : Value), BindsTo s fd ⟨[u], []⟩ [("_law_script", u)]) ∧ ∀ base : Heap, (K w.params).In base → base.Ns mainGlobals mg → FnOk l.prog w (K w.params) mg base CX0 5 fa fd ["_law_script"] (spLaw (K w.params))) :
    PySem.W.WalkO q loose XP YP l.row.toRowW d [] (fun f vs => PySem.call f vs) :=
  L2.walk_of (n := 63) (k := 5) (x := "_law_script") (CX := fun _ => CX0) (sp := fun w => spLaw (K w.params)) hn (by decide) hdf ⟨rfl, by decide, by decide⟩ hY F (fun _ _ a ns hl _ hS => ⟨a, ns, rfl, hS, hl, fun _ => rfl⟩) fun _ _ _ _ _ z => z

end K09

open PySem PySem.W PyProof.Rows in
set_option maxRecDepth 100000 in
set_option maxHeartbeats 0 in
theorem PySem.Challenge.cw_plotfree_k09_facts_keep_step_holds : PySem.Challenge.rw_plotfree_k09_facts_keep_step.Holds := by
  w_on; o_law; k_head; (case hw => w_witness2)
  k_fill
  refine K09.walk (l := PySem.Challenge.rw_plotfree_k09_facts_keep_step) rfl rfl (fun w h Y => PySem.W.kIn_of Y) ?F
  case F =>
    intro w mg fa h KX G hmg
    refine' K09.all_mk KX G hmg ?a1 ?l1 ?c1 ?k1 ?a2 ?l2 ?c2 ?k2 ?a3 ?l3 ?c3 ?k3 ?a4 ?l4 ?c4 ?k4 ?a5 ?l5 ?c5 ?k5 ?a6 ?l6 ?c6 ?k6 ?a7 ?l7 ?c7 ?k7 ?a8 ?l8 ?c8 ?k8 ?a9 ?l9 ?c9 ?k9 ?a10 ?l10 ?c10 ?k10 ?a11 ?l11 ?c11 ?k11 ?a12 ?l12 ?c12 ?k12 ?a13 ?l13 ?c13 ?k13 ?a14 ?l14 ?c14 ?k14 ?a15 ?l15 ?c15 ?k15 ?a16 ?l16 ?c16 ?k16 ?a17 ?l17 ?c17 ?k17 ?a18 ?l18 ?c18 ?k18 ?a19 ?l19 ?c19 ?k19 ?a20 ?l20 ?c20 ?k20 ?a21 ?l21 ?c21 ?k21 ?a22 ?l22 ?c22 ?k22 ?a23 ?l23 ?c23 ?k23 ?a24 ?l24 ?c24 ?k24 ?z_dict ?z_len ?z_list ?z_range ?z_reversed
    (case a1 => k_is)
    (case l1 => k_is)
    (case c1 => k_is)
    (case k1 => k_is)
    (case a2 => k_is)
    (case l2 => k_is)
    (case c2 => k_is)
    (case k2 => k_is)
    (case a3 => k_is)
    (case l3 => k_is)
    (case c3 => k_is)
    (case k3 => k_is)
    (case a4 => k_is)
    (case l4 => k_is)
    (case c4 => k_is)
    (case k4 => k_is)
    (case a5 => k_is)
    (case l5 => k_is)
    (case c5 => k_is)
    (case k5 => k_is)
    (case a6 => k_is)
    (case l6 => k_is)
    (case c6 => k_is)
    (case k6 => k_is)
    (case a7 => k_is)
    (case l7 => k_is)
    (case c7 => k_is)
    (case k7 => k_is)
    (case a8 => k_is)
    (case l8 => k_is)
    (case c8 => k_is)
    (case k8 => k_is)
    (case a9 => k_is)
    (case l9 => k_is)
    (case c9 => k_is)
    (case k9 => k_is)
    (case a10 => k_is)
    (case l10 => k_is)
    (case c10 => k_is)
    (case k10 => k_is)
    (case a11 => k_is)
    (case l11 => k_is)
    (case c11 => k_is)
    (case k11 => k_is)
    (case a12 => k_is)
    (case l12 => k_is)
    (case c12 => k_is)
    (case k12 => k_is)
    (case a13 => k_is)
    (case l13 => k_is)
    (case c13 => k_is)
    (case k13 => k_is)
    (case a14 => k_is)
    (case l14 => k_is)
    (case c14 => k_is)
    (case k14 => k_is)
    (case a15 => k_is)
    (case l15 => k_is)
    (case c15 => k_is)
    (case k15 => k_is)
    (case a16 => k_is)
    (case l16 => k_is)
    (case c16 => k_is)
    (case k16 => k_is)
    (case a17 => k_is)
    (case l17 => k_is)
    (case c17 => k_is)
    (case k17 => k_is)
    (case a18 => k_is)
    (case l18 => k_is)
    (case c18 => k_is)
    (case k18 => k_is)
    (case a19 => k_is)
    (case l19 => k_is)
    (case c19 => k_is)
    (case k19 => k_is)
    (case a20 => k_is)
    (case l20 => k_is)
    (case c20 => k_is)
    (case k20 => k_is)
    (case a21 => k_is)
    (case l21 => k_is)
    (case c21 => k_is)
    (case k21 => k_is)
    (case a22 => k_is)
    (case l22 => k_is)
    (case c22 => k_is)
    (case k22 => k_is)
    (case a23 => k_is)
    (case l23 => k_is)
    (case c23 => k_is)
    (case k23 => k_is)
    (case a24 => k_is)
    (case l24 => k_is)
    (case c24 => k_is)
    (case k24 => k_is)
    (case z_dict => k_is)
    (case z_len => k_is)
    (case z_list => k_is)
    (case z_range => k_is)
    (case z_reversed => k_is)
