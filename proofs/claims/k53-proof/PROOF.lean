import PyProof.Rows.All
import Wide.All
import OpenK.AllK
import Wide.FinOn
import HandS.ForMost
import HandS.ForExc
import HandS.Property
import HandS.OwnEq
import HandS.Conv
import HandS.Lambda
import HandS.TupAny
import HandS.TupMul
import HandS.Iter
import HandS.Zip
import HandS.Walk
import HandS.IsInst
import HandS.Text
import PyProof.InstNe
import HandS.FStr
import KE.KExcSuper
import HandS.HeadWalk
import KE.KExcIs
import HandS.ExcIs
import PyProof.EqAt
import HandS.TryOnly
import HandS.Replace
import HandS.Style
import KE.GoesMore
import KE.GoesNew
import HandS.ExcOwn
import PyProof.ListStr
import HandS.More
import HandS.Rev
import KE.DataAny
import HandS.Wide
import PySem.Challenge.RW_rakedpapers_k53_whole_rakes_counted
import HandS.EndTab
import KE.KNestM

section
set_option Elab.async false
set_option linter.all false
set_option maxRecDepth 100000
set_option maxHeartbeats 5000000
/-! The data layer: what a def does to data, without the heap. -/
namespace DL
open PySem L2 LamX

/-- a built-in class -/
inductive Tn where
  | int | bool | str | tuple | list | dict
def Tn.name : Tn → String
  | .int => "int" | .bool => "bool" | .str => "str" | .tuple => "tuple" | .list => "list" | .dict => "dict"
/-- a value as data -/
inductive D where
  | non | bl (b : Bool) | int (i : Int) | str (cs : List Nat) | ref (a : Addr) | ty (t : Tn)
  | tup (xs : List D) | lst (xs : List D) | ins (C : Addr) (fs : List (Str × D)) | dic (kvs : List (Key × D))

abbrev S (cs : List Nat) : Str := ⟨cs.toArray⟩
/-- a tuple of the written part -/
def KT (K : PySem.W.Frag) (a : Addr) (xs : List V) : Prop :=
  ∃ o : Obj, ∃ its n, K.lookup a = some o ∧ o.cls = .type "tuple" ∧ o.data = .seq its n ∧ its.size ≤ sizeLine ∧ Vals xs its.toList
/-- a list of the written part -/
def KL (K : PySem.W.Frag) (a : Addr) (xs : List V) : Prop :=
  ∃ o : Obj, ∃ its n, K.lookup a = some o ∧ o.cls = .type "list" ∧ o.dict = none ∧ o.data = .seq its n ∧ its.size ≤ sizeLine ∧ Vals xs its.toList
def QT (N : Addr → Prop) (K : PySem.W.Frag) (H : Hp) (a : Addr) (xs : List V) : Prop := (¬ N a ∧ H a = some (.tup xs)) ∨ KT K a xs
def QL (N : Addr → Prop) (K : PySem.W.Frag) (H : Hp) (a : Addr) (xs : List V) : Prop := ¬ N a ∧ H a = some (.lst xs)
theorem QT.sq {N K H a xs} (h : QT N K H a xs) : SqT K H a xs := h.elim (fun h => SqT.of h.2) fun ⟨o, its, n, h⟩ => .inr ⟨o, its, n, h⟩
theorem QL.sq {N K H a xs} (h : QL N K H a xs) : SqL K H a xs := SqL.of h.2

mutual
inductive Rp (N : Addr → Prop) (K : PySem.W.Frag) (H : Hp) : D → V → Prop
  | non : Rp N K H .non .non
  | bl (b : Bool) : Rp N K H (.bl b) (.bl b)
  | int (i : Int) : Rp N K H (.int i) (.int i)
  | str (cs : List Nat) : Rp N K H (.str cs) (.str (S cs))
  | ref (a : Addr) : Rp N K H (.ref a) (.ref a)
  | ty (t : Tn) : Rp N K H (.ty t) (.ty t.name)
  | tup {a : Addr} {ds : List D} {xs : List V} : QT N K H a xs → Rps N K H ds xs → Rp N K H (.tup ds) (.ref a)
  | lst {a : Addr} {ds : List D} {xs : List V} : QL N K H a xs → Rps N K H ds xs → Rp N K H (.lst ds) (.ref a)
  | ins {a C dx : Addr} {fs : List (Str × D)} {vs : List (Str × V)} : ¬ N a → H a = some (.ins C dx vs) → RpF N K H fs vs → Rp N K H (.ins C fs) (.ref a)
  | dic {a : Addr} {fs : List (Key × D)} {vs : List (Key × V)} : ¬ N a → H a = some (.dK vs) → RpK N K H fs vs → Rp N K H (.dic fs) (.ref a)
inductive Rps (N : Addr → Prop) (K : PySem.W.Frag) (H : Hp) : List D → List V → Prop
  | nil : Rps N K H [] []
  | cons {d : D} {v : V} {ds : List D} {vs : List V} : Rp N K H d v → Rps N K H ds vs → Rps N K H (d :: ds) (v :: vs)
inductive RpF (N : Addr → Prop) (K : PySem.W.Frag) (H : Hp) : List (Str × D) → List (Str × V) → Prop
  | nil : RpF N K H [] []
  | cons {n : Str} {d : D} {v : V} {ds : List (Str × D)} {vs : List (Str × V)} : Rp N K H d v → RpF N K H ds vs → RpF N K H ((n, d) :: ds) ((n, v) :: vs)
inductive RpK (N : Addr → Prop) (K : PySem.W.Frag) (H : Hp) : List (Key × D) → List (Key × V) → Prop
  | nil : RpK N K H [] []
  | cons {n : Key} {d : D} {v : V} {ds : List (Key × D)} {vs : List (Key × V)} : Rp N K H d v → RpK N K H ds vs → RpK N K H ((n, d) :: ds) ((n, v) :: vs)
end

/-- no table of code objects -/
def NoTb : HO → Prop
  | .tbl _ => False
  | _ => True
theorem NoTb.ne {o : HO} (h : NoTb o) : ∀ ps, o ≠ .tbl ps := fun ps e => by rw [e] at h; exact h
/-- what is not shut out stands, and is not shut out behind -/
def Tr (N : Addr → Prop) (H : Hp) (N' : Addr → Prop) (H' : Hp) : Prop := ∀ a o, ¬ N a → H a = some o → NoTb o → ¬ N' a ∧ H' a = some o
theorem Tr.refl {N H} : Tr N H N H := fun _ _ h e _ => ⟨h, e⟩
theorem Tr.trans {N H N1 H1 N2 H2} (a : Tr N H N1 H1) (b : Tr N1 H1 N2 H2) : Tr N H N2 H2 := fun c o h e z => let ⟨h1, e1⟩ := a c o h e z; b c o h1 e1 z
theorem QT.tr {N K H N' H' a xs} (t : Tr N H N' H') (h : QT N K H a xs) : QT N' K H' a xs := h.elim (fun h => .inl (t _ _ h.1 h.2 trivial)) .inr
theorem QL.tr {N K H N' H' a xs} (t : Tr N H N' H') (h : QL N K H a xs) : QL N' K H' a xs := t _ _ h.1 h.2 trivial
mutual
theorem Rp.tr {N K H N' H'} (t : Tr N H N' H') : ∀ {d : D} {v : V}, Rp N K H d v → Rp N' K H' d v
  | _, _, .non => .non
  | _, _, .bl b => .bl b
  | _, _, .int i => .int i
  | _, _, .str s => .str s
  | _, _, .ref a => .ref a
  | _, _, .ty a => .ty a
  | _, _, .tup h r => .tup (h.tr t) (r.tr t)
  | _, _, .lst h r => .lst (h.tr t) (r.tr t)
  | _, _, .ins n h r => .ins (t _ _ n h trivial).1 (t _ _ n h trivial).2 (r.tr t)
  | _, _, .dic n h r => .dic (t _ _ n h trivial).1 (t _ _ n h trivial).2 (r.tr t)
theorem Rps.tr {N K H N' H'} (t : Tr N H N' H') : ∀ {d : List D} {v : List V}, Rps N K H d v → Rps N' K H' d v
  | _, _, .nil => .nil
  | _, _, .cons h r => .cons (h.tr t) (r.tr t)
theorem RpF.tr {N K H N' H'} (t : Tr N H N' H') : ∀ {d : List (Str × D)} {v : List (Str × V)}, RpF N K H d v → RpF N' K H' d v
  | _, _, .nil => .nil
  | _, _, .cons h r => .cons (h.tr t) (r.tr t)
theorem RpK.tr {N K H N' H'} (t : Tr N H N' H') : ∀ {d : List (Key × D)} {v : List (Key × V)}, RpK N K H d v → RpK N' K H' d v
  | _, _, .nil => .nil
  | _, _, .cons h r => .cons (h.tr t) (r.tr t)
end
section
variable {N : Addr → Prop} {K : PySem.W.Frag} {H : Hp}
theorem Rps.length : ∀ {ds : List D} {vs : List V}, Rps N K H ds vs → ds.length = vs.length
  | _, _, .nil => rfl
  | _, _, .cons _ r => congrArg (· + 1) r.length
theorem Rps.app : ∀ {ds es : List D} {vs ws : List V}, Rps N K H ds vs → Rps N K H es ws → Rps N K H (ds ++ es) (vs ++ ws)
  | _, _, _, _, .nil, s => s
  | _, _, _, _, .cons h r, s => .cons h (r.app s)
theorem Rps.get : ∀ {ds : List D} {vs : List V} {i : Nat} {v : V}, Rps N K H ds vs → vs[i]? = some v → ∃ d, ds[i]? = some d ∧ Rp N K H d v
  | _, _, _, _, .nil, e => by simp at e
  | _, _, 0, _, .cons h _, e => by simp at e; subst e; exact ⟨_, rfl, h⟩
  | _, _, i + 1, _, .cons _ r, e => by
    obtain ⟨u, h1, h2⟩ := Rps.get (i := i) r (by simpa using e)
    exact ⟨u, by simpa using h1, h2⟩
theorem Rps.getD : ∀ {ds : List D} {vs : List V} {i : Nat} {d : D}, Rps N K H ds vs → ds[i]? = some d → ∃ v, vs[i]? = some v ∧ Rp N K H d v
  | _, _, _, _, .nil, e => by simp at e
  | _, _, 0, _, .cons h _, e => by simp at e; subst e; exact ⟨_, rfl, h⟩
  | _, _, i + 1, _, .cons _ r, e => by
    obtain ⟨u, h1, h2⟩ := Rps.getD (i := i) r (by simpa using e)
    exact ⟨u, by simpa using h1, h2⟩
theorem Rps.take : ∀ {ds : List D} {vs : List V} (n : Nat), Rps N K H ds vs → Rps N K H (ds.take n) (vs.take n)
  | _, _, 0, _ => .nil
  | _, _, _ + 1, .nil => .nil
  | _, _, n + 1, .cons h r => .cons h (r.take n)
theorem Rps.drop : ∀ {ds : List D} {vs : List V} (n : Nat), Rps N K H ds vs → Rps N K H (ds.drop n) (vs.drop n)
  | _, _, 0, r => r
  | _, _, _ + 1, .nil => .nil
  | _, _, n + 1, .cons h r => r.drop n
theorem Rps.set {d : D} {v : V} (h : Rp N K H d v) : ∀ {ds : List D} {vs : List V} (i : Nat), Rps N K H ds vs → Rps N K H (ds.set i d) (vs.set i v)
  | _, _, _, .nil => .nil
  | _, _, 0, .cons _ r => .cons h r
  | _, _, i + 1, .cons q r => .cons q (r.set h i)
theorem Rps.one {d : D} {v : V} (h : Rp N K H d v) : Rps N K H [d] [v] := .cons h .nil
theorem RpF.lookup : ∀ {ds : List (Str × D)} {vs : List (Str × V)} {n : Str} {d : D}, RpF N K H ds vs → ds.lookup n = some d → ∃ v, vs.lookup n = some v ∧ Rp N K H d v
  | _, _, _, _, .nil, e => by cases e
  | (m, d') :: _, _, n, d, .cons h r, e => by
    rw [List.lookup_cons] at e
    cases q : n == m with
    | true =>
      rw [q] at e
      cases e
      exact ⟨_, by rw [List.lookup_cons, q], h⟩
    | false =>
      rw [q] at e
      obtain ⟨v, h1, h2⟩ := RpF.lookup r e
      exact ⟨v, by rw [List.lookup_cons, q]; exact h1, h2⟩
theorem RpF.none : ∀ {ds : List (Str × D)} {vs : List (Str × V)} {n : Str}, RpF N K H ds vs → ds.lookup n = none → vs.lookup n = none
  | _, _, _, .nil, e => rfl
  | (m, d') :: _, _, n, .cons h r, e => by
    rw [List.lookup_cons] at e ⊢
    cases q : n == m with
    | true => rw [q] at e; cases e
    | false =>
      rw [q] at e
      exact RpF.none r e
theorem RpF.len : ∀ {ds : List (Str × D)} {vs : List (Str × V)}, RpF N K H ds vs → ds.length = vs.length
  | _, _, .nil => rfl
  | _, _, .cons _ r => congrArg (· + 1) r.len
end

/-! ### what may change -/
/-- the script is read at a -/
def SqF (K : PySem.W.Frag) (S : Addr → Prop) (H : Hp) (a : Addr) (xs : List V) : Prop := (∃ o, H a = some (.frz o (.lst xs))) ∨ KL K a xs ∨ (S a ∧ H a = some (.lst xs))
theorem SqF.sq {K S H a xs} (h : SqF K S H a xs) : SqL K H a xs := h.elim (fun ⟨o, h⟩ => .inl (.inr ⟨o, h⟩)) fun h => h.elim (fun ⟨o, its, n, h⟩ => .inr ⟨o, its, n, h⟩) fun h => .inl (.inl h.2)
/-- the row that draws are taken from -/
def RowL (K : PySem.W.Frag) (row : Addr) (S : Addr → Prop) (H : Hp) (xs : List V) : Prop :=
  ∃ (a : Addr) (ns : List Int) (i s r : Int), xs = [.ref a, .int i, .int s, .int r] ∧ SqF K S H a (ns.map V.int) ∧ ns.length ≤ 63 ∧ 0 ≤ i
def RowAt (K : PySem.W.Frag) (row : Addr) (S : Addr → Prop) (H : Hp) : Prop := ∃ xs, H row = some (.lst xs) ∧ RowL K row S H xs
/-- what is written to -/
def MuO : HO → Prop
  | .lst _ => True
  | .dK _ => True
  | .ins _ _ _ => True
  | _ => False
/-- tables stand while all else but what is written to stands -/
theorem tabS_keep {H H' : Hp} {P : Addr} {q : Str} (t : TabS H P q) (e : ∀ b o, H b = some o → ¬ MuO o → H' b = some o) : TabS H' P q := by
  obtain ⟨ps, h1, h2, h3⟩ := t
  refine ⟨ps, e _ _ h1 (fun z => z), h2, fun pos cv hc => ?_⟩
  obtain ⟨c, e1, e2⟩ := h3 pos cv hc
  exact ⟨c, e1, e _ _ e2 (by unfold CodeO; exact fun z => z)⟩
theorem tabs_keep {T : List (Addr × Str)} {H H' : Hp} (t : Tabs T H) (e : ∀ b o, H b = some o → ¬ MuO o → H' b = some o) : Tabs T H' := fun p hp => tabS_keep (t p hp) e
structure Mt (K : PySem.W.Frag) where
  dom : Addr → Prop
  inv : Hp → Prop
  row : Addr
  rdom : dom row
  sdm : Addr → Prop
  sdom : ∀ a, sdm a → dom a
  nsr : ¬ sdm row
  rinv : ∀ H, inv H → RowAt K row sdm H
  rput : ∀ H xs, inv H → RowL K row sdm H xs → inv (upd H row (.lst xs))
  fresh : ∀ H q o, inv H → H q = none → inv (upd H q o)
  nfree : ∀ H q, inv H → dom q → H q ≠ none
  other : ∀ H q o u, inv H → ¬ dom q → H q = some u → MuO u → inv (upd H q o)
  tabs : List (Addr × Str)
  tinv : ∀ H, inv H → Tabs tabs H
  tput : ∀ H H', inv H → ExtN H H' → Tabs tabs H' → inv H'
theorem RowL.keep {K row S H H' xs} (h : RowL K row S H xs) (k : ∀ a o u, H a = some (.frz o u) → H' a = some (.frz o u)) (k2 : ∀ a xs, S a → H a = some (.lst xs) → H' a = some (.lst xs)) : RowL K row S H' xs := by
  obtain ⟨a, ns, i, s, r, h1, h3, h4, h5⟩ := h
  exact ⟨a, ns, i, s, r, h1, h3.elim (fun ⟨o, e⟩ => .inl ⟨o, k _ _ _ e⟩) fun h => h.elim (fun h => .inr (.inl h)) fun h => .inr (.inr ⟨h.1, k2 _ _ h.1 h.2⟩), h4, h5⟩
/-- the row, the script, and the tables -/
def rowM (K : PySem.W.Frag) (row : Addr) (T : List (Addr × Str)) (S : Addr → Prop) (nS : ¬ S row) : Mt K where
  dom := fun a => a = row ∨ S a
  inv := fun H => RowAt K row S H ∧ Tabs T H ∧ ∀ a, S a → ∃ xs, H a = some (.lst xs)
  row := row
  sdm := S
  sdom := fun a h => .inr h
  nsr := nS
  rdom := .inl rfl
  rinv := fun _ h => h.1
  rput := fun H xs ⟨⟨ys, e, _⟩, t, u⟩ h => ⟨⟨xs, upd_same, h.keep (fun a o u q => by rw [upd_ne (ne_of q e (by intro z; cases z))]; exact q) fun a xs sa q => by rw [upd_ne (fun z => nS (by rw [← z]; exact sa))]; exact q⟩, tabs_keep t fun b o hb mu => by
    rw [upd_ne (ne_of hb e (fun z => mu (by rw [z]; trivial)))]
    exact hb, fun a sa => by rw [upd_ne (fun z => nS (by rw [← z]; exact sa))]; exact u a sa⟩
  fresh := fun H q o ⟨⟨ys, e, r⟩, t, u⟩ h => ⟨⟨ys, by rw [upd_ne (ne_of_none e h)]; exact e, r.keep (fun a o u z => by rw [upd_ne (ne_of_none z h)]; exact z) fun a xs sa z => by rw [upd_ne (ne_of_none z h)]; exact z⟩, t.ext fun b o z => by rw [upd_ne (ne_of_none z h)]; exact z, fun a sa => by
    obtain ⟨xs, n⟩ := u a sa
    exact ⟨xs, by rw [upd_ne (ne_of_none n h)]; exact n⟩⟩
  nfree := fun H q ⟨⟨ys, e, _⟩, _, u⟩ h z => h.elim (fun h => by rw [h, e] at z; cases z) fun h => by
    obtain ⟨xs, n⟩ := u q h
    rw [n] at z; cases z
  other := fun H q o u ⟨⟨ys, e, r⟩, t, w⟩ hq hu mu => ⟨⟨ys, by rw [upd_ne (fun z => hq (.inl z.symm))]; exact e, r.keep (fun a o' u' z => by rw [upd_ne (ne_of z hu (by intro y; subst y; exact mu))]; exact z) fun a xs sa z => by rw [upd_ne (fun y => hq (.inr (by rw [← y]; exact sa)))]; exact z⟩, tabs_keep t fun b o hb nm => by
    rw [upd_ne (ne_of hb hu (fun z => nm (by rw [z]; exact mu)))]
    exact hb, fun a sa => by rw [upd_ne (fun y => hq (.inr (by rw [← y]; exact sa)))]; exact w a sa⟩
  tabs := T
  tinv := fun H h => h.2.1
  tput := fun H H' ⟨⟨ys, e, r⟩, _, u⟩ x t => ⟨⟨ys, x _ _ e (by intro ps z; cases z), r.keep (fun a o u z => x _ _ z (by intro ps w; cases w)) fun a xs sa z => x _ _ z (by intro ps w; cases w)⟩, t, fun a sa => by
    obtain ⟨xs, n⟩ := u a sa
    exact ⟨xs, x _ _ n (by intro ps w; cases w)⟩⟩
/-- an object more, whose content stands -/
def Mt.plus {K} (M : Mt K) (q : Addr) (xs : List V) (hq : ¬ M.dom q) : Mt K where
  dom := fun a => M.dom a ∨ a = q
  inv := fun H => M.inv H ∧ H q = some (.lst xs)
  row := M.row
  sdm := M.sdm
  sdom := fun a h => .inl (M.sdom a h)
  nsr := M.nsr
  rdom := .inl M.rdom
  rinv := fun H h => M.rinv H h.1
  rput := fun H ys h r => ⟨M.rput H ys h.1 r, by rw [upd_ne (fun z => hq (by rw [z]; exact M.rdom))]; exact h.2⟩
  fresh := fun H p o h hp => ⟨M.fresh H p o h.1 hp, by rw [upd_ne (ne_of_none h.2 hp)]; exact h.2⟩
  nfree := fun H p h hp => hp.elim (M.nfree H p h.1) fun e => by rw [e, h.2]; simp
  other := fun H p o u h hp hu mu => ⟨M.other H p o u h.1 (fun z => hp (.inl z)) hu mu, by rw [upd_ne (fun z => hp (.inr z.symm))]; exact h.2⟩
  tabs := M.tabs
  tinv := fun H h => M.tinv H h.1
  tput := fun H H' h x t => ⟨M.tput H H' h.1 x t, x _ _ h.2 (by intro ps z; cases z)⟩
def Ex {K} (M : Mt K) (H H' : Hp) : Prop := ∀ a o, ¬ M.dom a → H a = some o → NoTb o → H' a = some o
theorem Ex.refl {K} {M : Mt K} {H} : Ex M H H := fun _ _ _ h _ => h
theorem Ex.trans {K} {M : Mt K} {H H1 H2} (a : Ex M H H1) (b : Ex M H1 H2) : Ex M H H2 := fun c o n h z => b c o n (a c o n h z) z
theorem Ex.new {K} {M : Mt K} {H p o} (h : H p = none) : Ex M H (upd H p o) := fun a u _ e _ => by rw [upd_ne (ne_of_none e h)]; exact e

/-- nothing stood there but, perhaps, a table -/
def Nw (H : Hp) (q : Addr) : Prop := ∀ o, H q = some o → ¬ NoTb o
theorem Nw.of {H : Hp} {q : Addr} (h : H q = none) : Nw H q := fun o z => by rw [h] at z; cases z
theorem Nw.back {K} {M : Mt K} {H H' : Hp} {q : Addr} (e : Ex M H H') (n : ¬ M.dom q) (h : Nw H' q) : Nw H q := fun o z nt => h o (e q o n z nt) nt
/-! ### the state of a def -/
inductive DV where
  | sh (d : D) | ow (ds : List D)
abbrev En := List (Option DV)
def Own (ρ : En) (σ : L2.St) (q : Addr) : Prop := ∃ (i : Nat) (ds : List D), ρ[i]? = some (some (DV.ow ds)) ∧ σ[i]? = some (some (V.ref q))
def Nx {K} (M : Mt K) (ρ : En) (σ : L2.St) (q : Addr) : Prop := M.dom q ∨ Own ρ σ q
structure Rep {K} (M : Mt K) (H0 : Hp) (ρ : En) (σ : L2.St) (H : Hp) : Prop where
  inv : M.inv H
  ex : Ex M H0 H
  len : ρ.length = σ.length
  sh : ∀ (i : Nat) (d : D), ρ[i]? = some (some (.sh d)) → ∃ v, σ[i]? = some (some v) ∧ Rp (Nx M ρ σ) K H d v
  ow : ∀ (i : Nat) (ds : List D), ρ[i]? = some (some (.ow ds)) → ∃ q xs, σ[i]? = some (some (.ref q)) ∧ ¬ M.dom q ∧ Nw H0 q ∧ H q = some (.lst xs) ∧ Rps (Nx M ρ σ) K H ds xs
  dj : ∀ (i j : Nat) (ds es : List D) (q : Addr), ρ[i]? = some (some (.ow ds)) → ρ[j]? = some (some (.ow es)) → σ[i]? = some (some (.ref q)) → σ[j]? = some (some (.ref q)) → i = j
section
variable {K : PySem.W.Frag} {M : Mt K} {H0 H H' : Hp} {ρ ρ' : En} {σ σ' : L2.St}
theorem Rep.own (R : Rep M H0 ρ σ H) {q : Addr} (h : Own ρ σ q) : ¬ M.dom q ∧ Nw H0 q ∧ ∃ xs, H q = some (.lst xs) := by
  obtain ⟨i, ds, h1, h2⟩ := h
  obtain ⟨q', xs, e1, e2, e3, e4, _⟩ := R.ow i ds h1
  rw [h2] at e1; cases e1
  exact ⟨e2, e3, xs, e4⟩
theorem Rep.there (R : Rep M H0 ρ σ H) {q : Addr} (h : Nx M ρ σ q) : H q ≠ none := h.elim (M.nfree H q R.inv) fun h => by
  obtain ⟨_, _, xs, e⟩ := R.own h
  rw [e]; simp
/-- all that stood stands: the state stands -/
theorem Rep.grow (R : Rep M H0 ρ σ H) (hi : M.inv H') (e : Ex M H H') : Rep M H0 ρ σ H' := by
  have t : Tr (Nx M ρ σ) H (Nx M ρ σ) H' := fun a o n h w => ⟨n, e a o (fun z => n (.inl z)) h w⟩
  refine ⟨hi, R.ex.trans e, R.len, fun i d h => ?_, fun i ds h => ?_, R.dj⟩
  · obtain ⟨v, h1, h2⟩ := R.sh i d h
    exact ⟨v, h1, h2.tr t⟩
  · obtain ⟨q, xs, h1, h2, h3, h4, h5⟩ := R.ow i ds h
    exact ⟨q, xs, h1, h2, h3, e q _ h2 h4 trivial, h5.tr t⟩
/-- fewer owned -/
theorem tr_own (h : ∀ q, Own ρ' σ' q → Own ρ σ q) (e : Ex M H H') : Tr (Nx M ρ σ) H (Nx M ρ' σ') H' := fun a o n q w => ⟨fun z => n (z.elim .inl fun z => .inr (h a z)), e a o (fun z => n (.inl z)) q w⟩
end

/-! ### transformers of data -/
/-- an exception, as data -/
structure Xc where
  C : Addr
  fs : List (Str × D)
abbrev XP := Xc → Prop
def RpX (N : Addr → Prop) (K : PySem.W.Frag) (H : Hp) (x : Xc) (cls : Value) (d : Option Addr) : Prop :=
  cls = .ref x.C ∧ ((x.fs = [] ∧ d = none) ∨ ∃ dx vs, x.fs ≠ [] ∧ d = some dx ∧ ¬ N dx ∧ H dx = some (.xd vs) ∧ RpF N K H x.fs vs)

/-- the exception that a suite holds: where it lies, its class, its dict, what is in it -/
structure Hot where
  a : Addr
  C : Addr
  d : Option Addr
  fs : List (Str × V)
structure XR where
  E : XK
  row : Addr
  T : List (Addr × Str)
  hot : Option Hot := none
def HotL {K} (M : Mt K) : Option Hot → Prop
  | none => True
  | some h => ∀ dx, h.d = some dx → ∀ H, M.inv H → H dx = some (.xd h.fs)
def LinkX {K} (M : Mt K) (H0 : Hp) (E : XR) (PX : XP) : Prop := (M.row = E.row ∧ M.tabs = E.T ∧ HotL M E.hot) ∧ ∀ x cls d H', PX x → Ex M H0 H' → M.inv H' → RpX M.dom K H' x cls d → E.E cls d H'
abbrev TD := En → (D → En → Prop) → XP → Prop
abbrev TDA := En → (List D → En → Prop) → XP → Prop
abbrev TDT := En → (Bool → En → Prop) → XP → Prop
def Sim (K : PySem.W.Frag) (E : XR) (t : TE) (T : TD) : Prop :=
  ∀ (M : Mt K) (H0 : Hp) (ρ : En) (σ : L2.St) (H : Hp) (Q : VK) (Q' : D → En → Prop) (PX : XP), Rep M H0 ρ σ H → LinkX M H0 E PX → T ρ Q' PX →
    (∀ d ρ' v H', Q' d ρ' → Rep M H0 ρ' σ H' → Ex M H H' → (∀ q, Own ρ' σ q → Own ρ σ q) → Rp (Nx M ρ' σ) K H' d v → Q v H') → t σ H Q
def SimA (K : PySem.W.Frag) (E : XR) (t : TA) (T : TDA) : Prop :=
  ∀ (M : Mt K) (H0 : Hp) (ρ : En) (σ : L2.St) (H : Hp) (Q : List V → Hp → Prop) (Q' : List D → En → Prop) (PX : XP), Rep M H0 ρ σ H → LinkX M H0 E PX → T ρ Q' PX →
    (∀ ds ρ' vs H', Q' ds ρ' → Rep M H0 ρ' σ H' → Ex M H H' → (∀ q, Own ρ' σ q → Own ρ σ q) → Rps (Nx M ρ' σ) K H' ds vs → Q vs H') → t σ H Q
def SimT (K : PySem.W.Frag) (E : XR) (t : TT) (T : TDT) : Prop :=
  ∀ (M : Mt K) (H0 : Hp) (ρ : En) (σ : L2.St) (H : Hp) (Q : Bool → Hp → Prop) (Q' : Bool → En → Prop) (PX : XP), Rep M H0 ρ σ H → LinkX M H0 E PX → T ρ Q' PX →
    (∀ b ρ' H', Q' b ρ' → Rep M H0 ρ' σ H' → Ex M H H' → (∀ q, Own ρ' σ q → Own ρ σ q) → Q b H') → t σ H Q
/-- the ends of a block, on data -/
structure DE where
  nx : En → Prop
  rt : D → Prop
  bk : En → Prop
  ct : En → Prop
abbrev TDS := DE → En → XP → Prop
structure Link {K} (M : Mt K) (H0 : Hp) (D0 : Ends) (D' : DE) : Prop where
  nx : ∀ ρ σ H, Rep M H0 ρ σ H → D'.nx ρ → D0.nx σ H
  rt : ∀ d v H, Ex M H0 H → M.inv H → Rp M.dom K H d v → D'.rt d → D0.rt v H
  bk : ∀ ρ σ H, Rep M H0 ρ σ H → D'.bk ρ → D0.bk σ H
  ct : ∀ ρ σ H, Rep M H0 ρ σ H → D'.ct ρ → D0.ct σ H
def SimS (K : PySem.W.Frag) (E : XR) (t : TS) (T : TDS) : Prop :=
  ∀ (M : Mt K) (H0 : Hp) (ρ : En) (σ : L2.St) (H : Hp) (D0 : Ends) (D' : DE) (PX : XP), Rep M H0 ρ σ H → LinkX M H0 E PX → Link M H0 D0 D' → T D' ρ PX → t D0 σ H

/-! ### where one stands -/
structure Ga where
  P : Program
  w : World
  K : PySem.W.Frag
  mg : Str → Option Value
  base : Heap
  N : List Str
  sc : Scope
  k : Nat
  fnL : Str → Bool
  E : XR
  cm : Bool := true
  ex : Cx → Prop := fun _ => True
/-- where nothing is raised -/
abbrev Ga.no (Γ : Ga) : Ga := { Γ with E := ⟨E0, Γ.E.row, Γ.E.T, Γ.E.hot⟩ }
/-- room, whether an exception is held or not -/
structure RoomW (k : Nat) (A : Around) : Prop where
  dp : (A.depth + 3 * k) + 5 < recursionLimit
  un : A.units + 16 * k + 200 < cLine
theorem RoomW.units {k : Nat} {A : Around} (r : RoomW k A) : A.units + 64 < cLine := by have := r.un; omega
theorem RoomW.of {k : Nat} {A : Around} (r : Room k A) : RoomW k A := ⟨r.dp, r.un⟩
structure OkX (Γ : Ga) (X : Cx) : Prop where
  prog : X.prog = Γ.P
  w : X.w = Γ.w
  K : X.K = Γ.K
  mg : X.mg = Γ.mg
  base : X.base = Γ.base
  N : X.N = Γ.N
  sc : X.env.scope = Γ.sc
  roomW : RoomW Γ.k X.A
  hnone : Γ.cm = true → X.A.handled = none
  calm : Γ.cm = true → X.calm = true
  extra : Γ.ex X
  pass : PassesOwn (model X.prog X.w) X.A X.env X.xe
  takes : Takes X (fun cls d _ H => Γ.E.E cls d H)
  fn : ∀ x, Γ.fnL x = true → X.fn x = true
/-- room, where none is held -/
theorem OkX.room {Γ : Ga} {X : Cx} (h : OkX Γ X) (hc : Γ.cm = true) : Room Γ.k X.A := ⟨h.hnone hc, h.roomW.dp, h.roomW.un⟩
/-- a name of the def's own: it may be stored -/
def LocF (Γ : Ga) (x : Str) : Prop := Γ.sc.names.lookup x = some .local ∨ (Γ.sc.names.lookup x = some .cell ∧ Γ.fnL x = true)
theorem LocF.loc {Γ : Ga} {X : Cx} {x : Str} (h : OkX Γ X) (l : LocF Γ x) : L2.Loc X.env.scope x := by
  unfold L2.Loc
  rw [h.sc]
  exact l.elim .inl fun l => .inr l.1
theorem LocF.fn {Γ : Ga} {X : Cx} {x : Str} (h : OkX Γ X) (l : LocF Γ x) : X.fn x = true ∨ X.env.scope.names.lookup x = some .local := by
  rw [h.sc]
  exact l.elim .inr fun l => .inl (h.fn x l.2)
def DEx (Γ : Ga) (e : Expr) (T : TD) : Prop := ∃ t, (∀ X, OkX Γ X → PE X e t) ∧ Sim Γ.K Γ.E t T
def DAx (Γ : Ga) (es : List Expr) (T : TDA) : Prop := ∃ t, (∀ X, OkX Γ X → PA X es t) ∧ SimA Γ.K Γ.E t T
def DTx (Γ : Ga) (e : Expr) (T : TDT) : Prop := ∃ t, (∀ X, OkX Γ X → PT X e t) ∧ SimT Γ.K Γ.E t T
def DS (Γ : Ga) (s : Stmt) (T : TDS) : Prop := ∃ t, (∀ X, OkX Γ X → PS X s t) ∧ SimS Γ.K Γ.E t T
def DSs (Γ : Ga) (s : List Stmt) (T : TDS) : Prop := ∃ t, (∀ X, OkX Γ X → PSs X s t) ∧ SimS Γ.K Γ.E t T
end DL
end

section
set_option Elab.async false
set_option linter.all false
set_option maxRecDepth 100000
set_option maxHeartbeats 5000000
namespace DL
open PySem L2

section
variable {Γ : Ga} {X : Cx}
/-! ### freezing -/
variable {K : PySem.W.Frag} {M : Mt K} {H0 H H' : Hp} {ρ ρ' : En} {σ σ' : L2.St}
def frz (i : Nat) (ds : List D) (ρ : En) : En := ρ.set i (some (.sh (.lst ds)))
theorem frz_own {i : Nat} {ds : List D} {q : Addr} (h : Own (frz i ds ρ) σ q) : Own ρ σ q ∧ ∃ (j : Nat) (es : List D), j ≠ i ∧ ρ[j]? = some (some (DV.ow es)) ∧ σ[j]? = some (some (V.ref q)) := by
  obtain ⟨j, es, h1, h2⟩ := h
  unfold frz at h1
  by_cases hj : i = j
  · subst hj
    by_cases hl : i < ρ.length
    · rw [List.getElem?_set_self hl] at h1; cases h1
    · rw [List.getElem?_eq_none (by simpa using hl)] at h1; cases h1
  · rw [List.getElem?_set_ne hj] at h1
    exact ⟨⟨j, es, h1, h2⟩, j, es, fun e => hj e.symm, h1, h2⟩
theorem Rep.freeze {i : Nat} {ds : List D} (R : Rep M H0 ρ σ H) (h : ρ[i]? = some (some (.ow ds))) : ∃ q xs, σ[i]? = some (some (.ref q)) ∧ H q = some (.lst xs) ∧ ¬ Nx M (frz i ds ρ) σ q ∧ Rps (Nx M (frz i ds ρ) σ) K H ds xs ∧ Rep M H0 (frz i ds ρ) σ H := by
  obtain ⟨q, xs, h1, h2, h3, h4, h5⟩ := R.ow i ds h
  have hn : ¬ Nx M (frz i ds ρ) σ q := fun z => z.elim h2 fun z => by
    obtain ⟨_, j, es, hj, e1, e2⟩ := frz_own z
    exact hj (R.dj j i es ds q e1 h e2 h1)
  have t : Tr (Nx M ρ σ) H (Nx M (frz i ds ρ) σ) H := tr_own (fun q z => (frz_own z).1) Ex.refl
  have lt : i < ρ.length := (List.getElem?_eq_some_iff.mp h).1
  refine ⟨q, xs, h1, h4, hn, h5.tr t, R.inv, R.ex, by unfold frz; rw [List.length_set]; exact R.len, fun j d e => ?_, fun j es e => ?_, fun j k es fs p e1 e2 e3 e4 => ?_⟩
  · unfold frz at e
    by_cases hj : i = j
    · subst hj
      rw [List.getElem?_set_self lt] at e
      cases e
      exact ⟨.ref q, h1, .lst ⟨hn, h4⟩ (h5.tr t)⟩
    · rw [List.getElem?_set_ne hj] at e
      obtain ⟨v, a, b⟩ := R.sh j d e
      exact ⟨v, a, b.tr t⟩
  · unfold frz at e
    by_cases hj : i = j
    · subst hj
      rw [List.getElem?_set_self lt] at e; cases e
    · rw [List.getElem?_set_ne hj] at e
      obtain ⟨p, ys, a1, a2, a3, a4, a5⟩ := R.ow j es e
      exact ⟨p, ys, a1, a2, a3, a4, a5.tr t⟩
  · have get : ∀ (j : Nat) (es : List D), (frz i ds ρ)[j]? = some (some (DV.ow es)) → ρ[j]? = some (some (DV.ow es)) := fun j es e => by
      unfold frz at e
      by_cases hj : i = j
      · subst hj
        rw [List.getElem?_set_self lt] at e; cases e
      · rw [List.getElem?_set_ne hj] at e
        exact e
    exact R.dj j k es fs p (get _ _ e1) (get _ _ e2) e3 e4
theorem Rep.new (R : Rep M H0 ρ σ H) {p : Addr} (h : H p = none) : ¬ Nx M ρ σ p := fun z => R.there z h

/-! ### expressions -/
def TV (i : Nat) : TD := fun ρ Q _ => match ρ[i]? with
  | some (some (.sh d)) => Q d ρ
  | some (some (.ow ds)) => Q (.lst ds) (frz i ds ρ)
  | _ => False
theorem sim_var {E : XR} (i : Nat) : Sim K E (tVar i) (TV i) := fun M H0 ρ σ H Q Q' PX R _ h k => by
  unfold TV at h
  split at h
  · rename_i d e
    obtain ⟨v, h1, h2⟩ := R.sh i d e
    exact ⟨v, h1, k d ρ v H h R Ex.refl (fun _ z => z) h2⟩
  · rename_i ds e
    obtain ⟨q, xs, h1, h2, h3, h4, R'⟩ := R.freeze e
    exact ⟨_, h1, k _ _ _ H h R' Ex.refl (fun q z => (frz_own z).1) (.lst ⟨h3, h2⟩ h4)⟩
  · exact h.elim
theorem de_var (i : Nat) {x : Str} {pos : Pos} (hN : Γ.N[i]? = some x := by rfl) (hv : Vis Γ.sc x := by first | exact Or.inl rfl | exact Or.inr (Or.inl rfl) | exact Or.inr (Or.inr rfl)) (hd : (x == ("__debug__" : Str)) = false := by decide)
    (hcd : (x == ("__classdict__" : Str)) = false := by decide) : DEx Γ (.Name x pos) (TV i) :=
  ⟨tVar i, fun X h => pe_var (by rw [h.N]; exact hN) (by rw [h.sc]; exact hv) hd hcd, sim_var i⟩
def TC (d : D) : TD := fun ρ Q _ => Q d ρ
theorem sim_c {E : XR} {v : V} {d : D} (h : ∀ N H, Rp N K H d v) : Sim K E (tC v) (TC d) := fun M H0 ρ σ H Q Q' PX R _ q k => k d ρ v H q R Ex.refl (fun _ z => z) (h _ _)
theorem de_int {i : Int} {j pos} : DEx Γ (.Constant (.int i) j pos) (TC (.int i)) := ⟨_, fun _ _ => pe_int, sim_c fun _ _ => .int i⟩
theorem de_bl {b : Bool} {j pos} : DEx Γ (.Constant (.bool b) j pos) (TC (.bl b)) := ⟨_, fun _ _ => pe_bl, sim_c fun _ _ => .bl b⟩
theorem de_non {j pos} : DEx Γ (.Constant .none j pos) (TC .non) := ⟨_, fun _ _ => pe_non, sim_c fun _ _ => .non⟩
theorem de_str (cs : List Nat) {x : Str} {j pos} (h : x = S cs := by rfl) : DEx Γ (.Constant (.str x) j pos) (TC (.str cs)) := by
  subst h
  exact ⟨_, fun _ _ => pe_str, sim_c fun _ _ => .str cs⟩
theorem de_glob {x : Str} {pos : Pos} {v : V} {u : Value} (d : D) (hg : Γ.sc.names.lookup x = some .globalImplicit) (hm : Γ.mg x = some u) (r : RelV v u) (hr : ∀ N H, Rp N Γ.K H d v) (hd : (x == ("__debug__" : Str)) = false := by decide) : DEx Γ (.Name x pos) (TC d) :=
  ⟨_, fun X h => pe_glob (by show X.env.scope.names.lookup x = _; rw [h.sc]; exact hg) (by rw [h.mg]; exact hm) r hd, sim_c hr⟩
/-- two-place operations -/
def TOp (g : D → D → (D → Prop) → Prop) (a b : TD) : TD := fun ρ Q X => a ρ (fun x ρ1 => b ρ1 (fun y ρ2 => g x y fun z => Q z ρ2) X) X
def SimR (K : PySem.W.Frag) (r : R2) (g : D → D → (D → Prop) → Prop) : Prop :=
  ∀ (M : Mt K) (N : Addr → Prop) (H : Hp) (x y : V) (dx dy : D) (Q : VK) (P : D → Prop), M.inv H → (∀ a, N a → H a ≠ none) → (∀ a, M.dom a → N a) → Rp N K H dx x → Rp N K H dy y → g dx dy P →
    (∀ dz z H', P dz → M.inv H' → Ex M H H' → Rp N K H' dz z → Q z H') → r x y H Q
theorem sim_op {E : XR} {r : R2} {g : D → D → (D → Prop) → Prop} {ta tb : TE} {Ta Tb : TD} (hr : SimR K r g) (ha : Sim K E ta Ta) (hb : Sim K E tb Tb) : Sim K E (tOp r ta tb) (TOp g Ta Tb) :=
  fun M H0 ρ σ H Q Q' PX R L h k => ha M H0 ρ σ H _ _ PX R L h fun dx ρ1 x H1 h1 R1 e1 o1 rx => hb M H0 ρ1 σ H1 _ _ PX R1 L h1 fun dy ρ2 y H2 h2 R2 e2 o2 ry =>
    hr M (Nx M ρ2 σ) H2 x y dx dy _ _ R2.inv (fun a z => R2.there z) (fun a z => .inl z) (rx.tr (tr_own o2 e2)) ry h2 fun dz z H3 q i3 e3 rz =>
      k dz ρ2 z H3 q (R2.grow i3 e3) ((e1.trans e2).trans e3) (fun q z => o1 q (o2 q z)) rz
theorem de_bin {op : Operator} {r : R2} {g : D → D → (D → Prop) → Prop} {a b : Expr} {Ta Tb : TD} {pos : Pos} (ho : ∀ X : Cx, X.K = Γ.K → RoomW Γ.k X.A → OpR X (binaryOp op) r) (hr : SimR Γ.K r g) (ha : DEx Γ a Ta) (hb : DEx Γ b Tb) : DEx Γ (.BinOp a op b pos) (TOp g Ta Tb) := by
  obtain ⟨ta, pa, sa⟩ := ha
  obtain ⟨tb, pb, sb⟩ := hb
  exact ⟨_, fun X h => pe_op (ho X h.K h.roomW) (pa X h) (pb X h), sim_op hr sa sb⟩
theorem de_cmp {op : CmpOp} {r : R2} {g : D → D → (D → Prop) → Prop} {a b : Expr} {Ta Tb : TD} {pos : Pos} (ho : ∀ X : Cx, X.K = Γ.K → RoomW Γ.k X.A → OpR X (compareOp op) r) (hr : SimR Γ.K r g) (ha : DEx Γ a Ta) (hb : DEx Γ b Tb)
    (hm : behindInMarks op b = false := by first | exact nobehind _ (by decide) (by decide) | rfl) : DEx Γ (.Compare a [op] [b] pos) (TOp g Ta Tb) := by
  obtain ⟨ta, pa, sa⟩ := ha
  obtain ⟨tb, pb, sb⟩ := hb
  exact ⟨_, fun X h => pe_cmpR (ho X h.K h.roomW) (pa X h) (pb X h) hm, sim_op hr sa sb⟩
/-- either of two rules -/
def rOr (r r' : R2) : R2 := fun x y H Q => r x y H Q ∨ r' x y H Q
theorem OpR.or {f : Value → Value → Sem Value} {r r' : R2} (h : OpR X f r) (h' : OpR X f r') : OpR X f (rOr r r') := fun pins s σ H x y v u Q I rx ry q =>
  q.elim (h pins s σ H x y v u Q I rx ry) (h' pins s σ H x y v u Q I rx ry)
theorem szl {n : Nat} (h : n ≤ 100000) : n ≤ sizeLine := Nat.le_trans h (by decide)
theorem szlt {n : Nat} (h : n ≤ 100000) : n < sizeLine := Nat.lt_of_le_of_lt h (by decide)

/-! ### arithmetic -/
def gI (g : Int → Int → D) (C : Int → Int → Prop) : D → D → (D → Prop) → Prop
  | .int i, .int j, P => C i j ∧ P (g i j)
  | _, _, _ => False
def CT (_ _ : Int) : Prop := True
theorem simr_I {C : Int → Int → Prop} {f : Int → Int → Int} : SimR K (rI C fun i j => .int (f i j)) (gI (fun i j => .int (f i j)) C) := fun M N H x y dx dy Q P hi _ _ rx ry h k => by
  unfold gI at h
  split at h
  · cases rx; cases ry
    exact ⟨_, _, rfl, rfl, h.1, k _ _ H h.2 hi Ex.refl (.int _)⟩
  · exact h.elim
theorem simr_I0 {f : Int → Int → Int} : SimR K (rI0 fun i j => .int (f i j)) (gI (fun i j => .int (f i j)) CT) := fun M N H x y dx dy Q P hi _ _ rx ry h k => by
  unfold gI at h
  split at h
  · cases rx; cases ry
    exact ⟨_, _, rfl, rfl, k _ _ H h.2 hi Ex.refl (.int _)⟩
  · exact h.elim
theorem simr_B0 {f : Int → Int → Bool} : SimR K (rI0 fun i j => .bl (f i j)) (gI (fun i j => .bl (f i j)) CT) := fun M N H x y dx dy Q P hi _ _ rx ry h k => by
  unfold gI at h
  split at h
  · cases rx; cases ry
    exact ⟨_, _, rfl, rfl, k _ _ H h.2 hi Ex.refl (.bl _)⟩
  · exact h.elim
variable {a b : Expr} {Ta Tb : TD} {pos : Pos}
def gSub : D → D → (D → Prop) → Prop := gI (fun i j => .int (i - j)) CT
def gMul0 : D → D → (D → Prop) → Prop := gI (fun i j => .int (i * j)) CMul
def gDiv : D → D → (D → Prop) → Prop := gI (fun i j => .int (i / j)) CDiv
def gMod : D → D → (D → Prop) → Prop := gI (fun i j => .int (i % j)) (fun _ j => 0 < j)
def gPow : D → D → (D → Prop) → Prop := gI (fun i j => .int (i ^ j.toNat)) CPow
theorem de_sub (ha : DEx Γ a Ta) (hb : DEx Γ b Tb) : DEx Γ (.BinOp a .Sub b pos) (TOp gSub Ta Tb) := de_bin (fun _ _ _ => op_sub) simr_I0 ha hb
theorem de_div (ha : DEx Γ a Ta) (hb : DEx Γ b Tb) : DEx Γ (.BinOp a .FloorDiv b pos) (TOp gDiv Ta Tb) := de_bin (fun _ _ _ => op_fdiv) simr_I ha hb
theorem de_mod (ha : DEx Γ a Ta) (hb : DEx Γ b Tb) : DEx Γ (.BinOp a .Mod b pos) (TOp gMod Ta Tb) := de_bin (fun _ _ _ => op_mod) simr_I ha hb
theorem de_pow (ha : DEx Γ a Ta) (hb : DEx Γ b Tb) : DEx Γ (.BinOp a .Pow b pos) (TOp gPow Ta Tb) := de_bin (fun _ _ _ => op_pow) simr_I ha hb
/-- a + b of whatever -/
def gAdd : D → D → (D → Prop) → Prop
  | .int i, .int j, P => P (.int (i + j))
  | .str a, .str b, P => a.length + b.length ≤ 100000 ∧ P (.str (a ++ b))
  | .lst a, .lst b, P => a.length + b.length ≤ 100000 ∧ P (.lst (a ++ b))
  | .tup a, .tup b, P => a.length + b.length ≤ 100000 ∧ P (.tup (a ++ b))
  | _, _, _ => False
def rAddStr : R2 := fun x y H Q => ∃ i j, x = .str i ∧ y = .str j ∧ i.length + j.length ≤ sizeLine ∧ Q (.str (i ++ j)) H
theorem S_app (a b : List Nat) : S a ++ S b = S (a ++ b) := by
  show (⟨a.toArray ++ b.toArray⟩ : Str) = ⟨(a ++ b).toArray⟩
  simp
theorem S_len (a : List Nat) : (S a).length = a.length := by
  show a.toArray.size = a.length
  simp
theorem simr_add : SimR K (rOr (rI0 fun i j => .int (i + j)) (rOr rAddStr (rOr rCat (rCatA K)))) gAdd := fun M N H x y dx dy Q P hi hn hd rx ry h k => by
  unfold gAdd at h
  split at h
  · cases rx; cases ry
    exact .inl ⟨_, _, rfl, rfl, k _ _ H h hi Ex.refl (.int _)⟩
  · rename_i a b
    cases rx; cases ry
    refine .inr (.inl ⟨_, _, rfl, rfl, ?_, ?_⟩)
    · rw [S_len, S_len]
      exact szl h.1
    · rw [S_app]
      exact k _ _ H h.2 hi Ex.refl (.str _)
  · cases rx with
    | lst qa ra =>
      cases ry with
      | lst qb rb =>
        have h1 := h.1
        rw [ra.length, rb.length] at h1
        exact .inr (.inr (.inl ⟨_, _, _, _, rfl, rfl, qa.2, qb.2, szl h1, fun p hp => k _ _ _ h.2 (M.fresh _ _ _ hi hp) (Ex.new hp)
          (.lst ⟨fun z => hn p z hp, upd_same⟩ ((ra.tr fun c o nc e wt => ⟨nc, by rw [upd_ne (ne_of_none e hp)]; exact e⟩).app (rb.tr fun c o nc e wt => ⟨nc, by rw [upd_ne (ne_of_none e hp)]; exact e⟩)))⟩))
  · cases rx with
    | tup qa ra =>
      cases ry with
      | tup qb rb =>
        have h1 := h.1
        rw [ra.length, rb.length] at h1
        refine .inr (.inr (.inr ⟨_, _, _, _, rfl, rfl, qa.sq, qb.sq, szl h1, fun e => ?_, fun _ e => ?_, fun _ _ p hp => k _ _ _ h.2 (M.fresh _ _ _ hi hp) (Ex.new hp)
          (.tup (.inl ⟨fun z => hn p z hp, upd_same⟩) ((ra.tr fun c o nc e wt => ⟨nc, by rw [upd_ne (ne_of_none e hp)]; exact e⟩).app (rb.tr fun c o nc e wt => ⟨nc, by rw [upd_ne (ne_of_none e hp)]; exact e⟩)))⟩))
        · subst e
          cases ra
          exact k _ _ H h.2 hi Ex.refl (.tup qb rb)
        · subst e
          cases rb
          exact k _ _ H h.2 hi Ex.refl (by rw [List.append_nil]; exact .tup qa ra)
  · exact h.elim
theorem de_add (ha : DEx Γ a Ta) (hb : DEx Γ b Tb) : DEx Γ (.BinOp a .Add b pos) (TOp gAdd Ta Tb) :=
  de_bin (r := rOr (rI0 fun i j => .int (i + j)) (rOr rAddStr (rOr rCat (rCatA Γ.K)))) (fun X h _ => op_add.or (OpR.or op_add_str (op_cat.or (by rw [← h]; exact op_catA)))) simr_add ha hb
theorem de_mul0 (ha : DEx Γ a Ta) (hb : DEx Γ b Tb) : DEx Γ (.BinOp a .Mult b pos) (TOp gMul0 Ta Tb) := de_bin (fun _ _ _ => op_mul) simr_I ha hb
/-! ### comparisons -/
def gLt : D → D → (D → Prop) → Prop := gI (fun i j => .bl (decide (i < j))) CT
def gLe : D → D → (D → Prop) → Prop := gI (fun i j => .bl (decide (i ≤ j))) CT
def gGt : D → D → (D → Prop) → Prop := gI (fun i j => .bl (decide (j < i))) CT
def gGe : D → D → (D → Prop) → Prop := gI (fun i j => .bl (decide (j ≤ i))) CT
theorem de_lt (ha : DEx Γ a Ta) (hb : DEx Γ b Tb) : DEx Γ (.Compare a [.Lt] [b] pos) (TOp gLt Ta Tb) := de_cmp (fun _ _ _ => op_lt) simr_B0 ha hb
theorem de_le (ha : DEx Γ a Ta) (hb : DEx Γ b Tb) : DEx Γ (.Compare a [.LtE] [b] pos) (TOp gLe Ta Tb) := de_cmp (fun _ _ _ => op_le) simr_B0 ha hb
theorem de_gt (ha : DEx Γ a Ta) (hb : DEx Γ b Tb) : DEx Γ (.Compare a [.Gt] [b] pos) (TOp gGt Ta Tb) := de_cmp (fun _ _ _ => op_gt) simr_B0 ha hb
theorem de_ge (ha : DEx Γ a Ta) (hb : DEx Γ b Tb) : DEx Γ (.Compare a [.GtE] [b] pos) (TOp gGe Ta Tb) := de_cmp (fun _ _ _ => op_ge) simr_B0 ha hb
end
end DL
end

section
set_option Elab.async false
set_option linter.all false
set_option maxRecDepth 100000
set_option maxHeartbeats 5000000
namespace DL
open PySem L2

/-! ### equality of data -/
mutual
def toPy : D → PyData
  | .non => .none
  | .bl b => .bool b
  | .int i => .int i
  | .str cs => .str (S cs)
  | .tup xs => .tuple (toPys xs)
  | .lst xs => .list (toPys xs)
  | .ref _ => .dict []
  | .ty _ => .dict []
  | .ins _ _ => .dict []
  | .dic _ => .dict []
def toPys : List D → List PyData
  | [] => []
  | d :: ds => toPy d :: toPys ds
end
/-- data that == reads -/
def okD (d : D) : Bool := SeqAt.shaped (toPy d)
def eqD (d e : D) : Bool := PyData.eqv (toPy d) (toPy e)
theorem okD_refl {d : D} (h : okD d = true) : eqD d d = true := PySem.SeqAt.eqv_refl (toPy d) (SeqAt.canLay_of_shaped h)
section
variable {N : Addr → Prop} {K : PySem.W.Frag} {H : Hp}
theorem lay_not {d : D} (h : toPy d = .dict []) : (toPy d).canLay0 = false := by rw [h]; rfl
mutual
theorem Rp.dp : ∀ {d : D} {v : V}, Rp N K H d v → (toPy d).canLay0 = true → Dp K H v (toPy d)
  | _, _, .non, _ => .non
  | _, _, .bl b, _ => .bl b
  | _, _, .int i, _ => .int i
  | _, _, .str s, _ => .str (S s)
  | _, _, .ref a, c => by
    have z : (toPy (.ref a)).canLay0 = false := lay_not rfl
    rw [z] at c; cases c
  | _, _, .ty a, c => by
    have z : (toPy (.ty a)).canLay0 = false := lay_not rfl
    rw [z] at c; cases c
  | _, _, .tup h r, c => .tup h.sq (r.dp c)
  | _, _, .lst h r, c => .lst h.sq (r.dp c)
  | _, _, .ins (C := C) (fs := fs) _ _ _, c => by
    have z : (toPy (.ins C fs)).canLay0 = false := lay_not rfl
    rw [z] at c; cases c
  | _, _, .dic (fs := fs) _ _ _, c => by
    have z : (toPy (.dic fs)).canLay0 = false := lay_not rfl
    rw [z] at c; cases c
theorem Rps.dp : ∀ {d : List D} {v : List V}, Rps N K H d v → PyData.canLayAll0 (toPys d) = true → DpAll K H v (toPys d)
  | _, _, .nil, _ => .nil
  | _, _, .cons h r, c => by
    have c' := Bool.and_eq_true_iff.mp (show (PyData.canLay0 _ && PyData.canLayAll0 _) = true from c)
    exact .cons (h.dp c'.1) (r.dp c'.2)
end
end
section
variable {Γ : Ga} {X : Cx} {K : PySem.W.Frag} {a b c e : Expr} {es : List Expr} {Ta Tb Tc T : TD} {TA : TDA} {TU TU' : TDT} {pos : Pos} {E : XR}
def gEq : D → D → (D → Prop) → Prop := fun d e P => okD d = true ∧ okD e = true ∧ P (.bl (eqD d e))
def gNe : D → D → (D → Prop) → Prop := fun d e P => okD d = true ∧ okD e = true ∧ P (.bl (!eqD d e))
theorem simr_eq : SimR K (rEqD K) gEq := fun M N H x y dx dy Q P hi _ _ rx ry h k =>
  ⟨_, _, rx.dp (SeqAt.canLay_of_shaped h.1), ry.dp (SeqAt.canLay_of_shaped h.2.1), h.1, h.2.1, k _ _ H h.2.2 hi Ex.refl (.bl _)⟩
theorem simr_ne : SimR K (rNeD K) gNe := fun M N H x y dx dy Q P hi _ _ rx ry h k =>
  ⟨_, _, rx.dp (SeqAt.canLay_of_shaped h.1), ry.dp (SeqAt.canLay_of_shaped h.2.1), h.1, h.2.1, k _ _ H h.2.2 hi Ex.refl (.bl _)⟩
theorem de_eq (ha : DEx Γ a Ta) (hb : DEx Γ b Tb) : DEx Γ (.Compare a [.Eq] [b] pos) (TOp gEq Ta Tb) := de_cmp (fun X h r => by rw [← h]; exact op_eqD r.units) simr_eq ha hb
theorem de_ne (ha : DEx Γ a Ta) (hb : DEx Γ b Tb) : DEx Γ (.Compare a [.NotEq] [b] pos) (TOp gNe Ta Tb) := de_cmp (fun X h r => by rw [← h]; exact op_neD r.units) simr_ne ha hb
/-- is None -/
def gIsN : D → D → (D → Prop) → Prop := fun d e P => match e with | .non => P (.bl (match d with | .non => true | _ => false)) | _ => False
def gNotN : D → D → (D → Prop) → Prop := fun d e P => match e with | .non => P (.bl (match d with | .non => false | _ => true)) | _ => False
theorem simr_isN : SimR K (fun x y H Q => y = .non ∧ Q (.bl (decide (x = .non))) H) gIsN := fun M N H x y dx dy Q P hi _ _ rx ry h k => by
  unfold gIsN at h
  split at h
  · cases ry
    refine ⟨rfl, k _ _ H h hi Ex.refl ?_⟩
    cases rx <;> exact .bl _
  · exact h.elim
theorem simr_notN : SimR K (fun x y H Q => y = .non ∧ Q (.bl (!decide (x = .non))) H) gNotN := fun M N H x y dx dy Q P hi _ _ rx ry h k => by
  unfold gNotN at h
  split at h
  · cases ry
    refine ⟨rfl, k _ _ H h hi Ex.refl ?_⟩
    cases rx <;> exact .bl _
  · exact h.elim
theorem de_isN (ha : DEx Γ a Ta) (hb : DEx Γ b Tb) : DEx Γ (.Compare a [.Is] [b] pos) (TOp gIsN Ta Tb) := de_cmp (fun _ _ _ => op_isN) simr_isN ha hb
theorem de_notN (ha : DEx Γ a Ta) (hb : DEx Γ b Tb) : DEx Γ (.Compare a [.IsNot] [b] pos) (TOp gNotN Ta Tb) := de_cmp (fun _ _ _ => op_notN) simr_notN ha hb
/-- in, of flat items; of a text -/
def flatD : D → Bool
  | .non => true | .bl _ => true | .int _ => true | .str _ => true | _ => false
def eqF : D → D → Bool
  | .non, .non => true
  | .bl a, .bl b => a == b
  | .bl a, .int b => (if a = true then 1 else 0) == b
  | .int a, .bl b => a == (if b = true then 1 else 0)
  | .int a, .int b => a == b
  | .str a, .str b => a == b
  | _, _ => false
def inD (x : D) (xs : List D) : Bool := xs.any fun y => eqF y x
def itemsD : D → Option (List D)
  | .lst xs => some xs
  | .tup xs => some xs
  | _ => none
/-- whether a text of one sign, or of any, is within another one -/
def subT (a b : List Nat) : Bool := !(Builtin.Str.occurrences (S b) (S a) 0 (S b).length 1).isEmpty
def gIn (neg : Bool) : D → D → (D → Prop) → Prop := fun x y P => match y with
  | .str b => (match x with | .str a => P (.bl (if neg then !subT a b else subT a b)) | _ => False)
  | .lst xs => flatD x = true ∧ xs.all flatD = true ∧ P (.bl (if neg then !inD x xs else inD x xs))
  | .tup xs => flatD x = true ∧ xs.all flatD = true ∧ P (.bl (if neg then !inD x xs else inD x xs))
  | _ => False
variable {N : Addr → Prop} {H : Hp}
theorem Rp.flat {d : D} {v : V} (r : Rp N K H d v) (h : flatD d = true) : flatV v = true := by
  cases r <;> first | rfl | cases h
theorem Rps.flat : ∀ {ds : List D} {vs : List V}, Rps N K H ds vs → ds.all flatD = true → vs.all flatV = true
  | _, _, .nil, _ => rfl
  | _, _, .cons h r, c => by
    rw [List.all_cons, Bool.and_eq_true] at c ⊢
    exact ⟨h.flat c.1, r.flat c.2⟩
theorem S_inj {a b : List Nat} (h : S a = S b) : a = b := by
  injection h with h
  exact List.toArray_inj h
theorem S_beq (a b : List Nat) : (S a == S b) = (a == b) := by
  rw [Bool.eq_iff_iff]
  simp only [beq_iff_eq]
  exact ⟨S_inj, fun e => by rw [e]⟩
theorem Rp.eqF {d e : D} {v w : V} (r : Rp N K H d v) (q : Rp N K H e w) (h : flatD d = true) (h' : flatD e = true) : eqV v w = DL.eqF d e := by
  cases r <;> first
    | (cases q <;> first
        | rfl
        | exact S_beq _ _
        | cases h')
    | cases h
theorem Rps.inD {x : D} {v : V} (r : Rp N K H x v) (h : flatD x = true) : ∀ {ds : List D} {vs : List V}, Rps N K H ds vs → ds.all flatD = true → inV v vs = DL.inD x ds
  | _, _, .nil, _ => rfl
  | d :: ds, w :: vs, .cons q s, c => by
    rw [List.all_cons, Bool.and_eq_true] at c
    show (eqV w v || inV v vs) = (DL.eqF d x || DL.inD x ds)
    rw [q.eqF r c.1 h, Rps.inD r h s c.2]
def rInStr (neg : Bool) : R2 := fun x y H Q => ∃ i j, x = .str i ∧ y = .str j ∧ Q (.bl (if neg then !(!(Builtin.Str.occurrences j i 0 j.length 1).isEmpty) else !(Builtin.Str.occurrences j i 0 j.length 1).isEmpty)) H
theorem simr_in {neg : Bool} : SimR K (rOr (rInStr neg) (rIn K neg)) (gIn neg) := fun M N H x y dx dy Q P hi _ _ rx ry h k => by
  unfold gIn at h
  split at h
  · split at h
    · cases rx; cases ry
      exact .inl ⟨_, _, rfl, rfl, k _ _ H h hi Ex.refl (.bl _)⟩
    · exact h.elim
  · cases ry with
    | lst q r =>
      refine .inr ⟨_, _, rfl, .inl q.sq, rx.flat h.1, r.flat h.2.1, ?_⟩
      rw [Rps.inD rx h.1 r h.2.1]
      exact k _ _ H h.2.2 hi Ex.refl (.bl _)
  · cases ry with
    | tup q r =>
      refine .inr ⟨_, _, rfl, .inr q.sq, rx.flat h.1, r.flat h.2.1, ?_⟩
      rw [Rps.inD rx h.1 r h.2.1]
      exact k _ _ H h.2.2 hi Ex.refl (.bl _)
  · exact h.elim
theorem op_inStr {X : Cx} : OpR X (compareOp .In) (rInStr false) := op_in_str
theorem op_notInStr {X : Cx} : OpR X (compareOp .NotIn) (rInStr true) := op_notin_str
theorem de_in (ha : DEx Γ a Ta) (hb : DEx Γ b Tb) (hm : behindInMarks .In b = false := by rfl) : DEx Γ (.Compare a [.In] [b] pos) (TOp (gIn false) Ta Tb) := de_cmp (fun X h r => by rw [← h]; exact OpR.or op_inStr op_in_seq) simr_in ha hb hm
theorem de_notin (ha : DEx Γ a Ta) (hb : DEx Γ b Tb) (hm : behindInMarks .NotIn b = false := by rfl) : DEx Γ (.Compare a [.NotIn] [b] pos) (TOp (gIn true) Ta Tb) := de_cmp (fun X h r => by rw [← h]; exact OpR.or op_notInStr op_notIn_seq) simr_in ha hb hm

/-! ### tests -/
def TTest (T : TD) : TDT := fun ρ Q X => T ρ (fun d ρ' => match d with | .bl b => Q b ρ' | _ => False) X
theorem sim_test {t : TE} (h : Sim K E t T) : SimT K E (tTest t) (TTest T) := fun M H0 ρ σ H Q Q' PX R L q k => h M H0 ρ σ H _ _ PX R L q fun d ρ' v H' z R' e o r => by
  cases r <;> first | exact z.elim | exact ⟨_, rfl, k _ _ _ z R' e o⟩
theorem dt_cmp {op : CmpOp} (h : ∃ (r : R2) (g : D → D → (D → Prop) → Prop) (Ta Tb : TD), T = TOp g Ta Tb ∧ (∀ X : Cx, X.K = Γ.K → RoomW Γ.k X.A → OpR X (compareOp op) r) ∧ SimR Γ.K r g ∧ DEx Γ a Ta ∧ DEx Γ b Tb)
    (hm : behindInMarks op b = false := by first | exact nobehind _ (by decide) (by decide) | rfl) : DTx Γ (.Compare a [op] [b] pos) (TTest T) := by
  obtain ⟨r, g, Ta, Tb, rfl, ho, hr, ⟨ta, pa, sa⟩, ⟨tb, pb, sb⟩⟩ := h
  exact ⟨_, fun X h => pt_cmpR (ho X h.K h.roomW) (pa X h) (pb X h) hm, sim_test (sim_op hr sa sb)⟩
theorem dt_eq (ha : DEx Γ a Ta) (hb : DEx Γ b Tb) : DTx Γ (.Compare a [.Eq] [b] pos) (TTest (TOp gEq Ta Tb)) := dt_cmp ⟨_, _, _, _, rfl, fun X h r => by rw [← h]; exact op_eqD r.units, simr_eq, ha, hb⟩
theorem dt_ne (ha : DEx Γ a Ta) (hb : DEx Γ b Tb) : DTx Γ (.Compare a [.NotEq] [b] pos) (TTest (TOp gNe Ta Tb)) := dt_cmp ⟨_, _, _, _, rfl, fun X h r => by rw [← h]; exact op_neD r.units, simr_ne, ha, hb⟩
theorem dt_lt (ha : DEx Γ a Ta) (hb : DEx Γ b Tb) : DTx Γ (.Compare a [.Lt] [b] pos) (TTest (TOp gLt Ta Tb)) := dt_cmp ⟨_, _, _, _, rfl, fun _ _ _ => op_lt, simr_B0, ha, hb⟩
theorem dt_le (ha : DEx Γ a Ta) (hb : DEx Γ b Tb) : DTx Γ (.Compare a [.LtE] [b] pos) (TTest (TOp gLe Ta Tb)) := dt_cmp ⟨_, _, _, _, rfl, fun _ _ _ => op_le, simr_B0, ha, hb⟩
theorem dt_gt (ha : DEx Γ a Ta) (hb : DEx Γ b Tb) : DTx Γ (.Compare a [.Gt] [b] pos) (TTest (TOp gGt Ta Tb)) := dt_cmp ⟨_, _, _, _, rfl, fun _ _ _ => op_gt, simr_B0, ha, hb⟩
theorem dt_ge (ha : DEx Γ a Ta) (hb : DEx Γ b Tb) : DTx Γ (.Compare a [.GtE] [b] pos) (TTest (TOp gGe Ta Tb)) := dt_cmp ⟨_, _, _, _, rfl, fun _ _ _ => op_ge, simr_B0, ha, hb⟩
theorem dt_isN (ha : DEx Γ a Ta) (hb : DEx Γ b Tb) : DTx Γ (.Compare a [.Is] [b] pos) (TTest (TOp gIsN Ta Tb)) := dt_cmp ⟨_, _, _, _, rfl, fun _ _ _ => op_isN, simr_isN, ha, hb⟩
theorem dt_notN (ha : DEx Γ a Ta) (hb : DEx Γ b Tb) : DTx Γ (.Compare a [.IsNot] [b] pos) (TTest (TOp gNotN Ta Tb)) := dt_cmp ⟨_, _, _, _, rfl, fun _ _ _ => op_notN, simr_notN, ha, hb⟩
theorem dt_in (ha : DEx Γ a Ta) (hb : DEx Γ b Tb) (hm : behindInMarks .In b = false := by rfl) : DTx Γ (.Compare a [.In] [b] pos) (TTest (TOp (gIn false) Ta Tb)) := dt_cmp ⟨_, _, _, _, rfl, fun X h r => by rw [← h]; exact OpR.or op_inStr op_in_seq, simr_in, ha, hb⟩ hm
theorem dt_notin (ha : DEx Γ a Ta) (hb : DEx Γ b Tb) (hm : behindInMarks .NotIn b = false := by rfl) : DTx Γ (.Compare a [.NotIn] [b] pos) (TTest (TOp (gIn true) Ta Tb)) := dt_cmp ⟨_, _, _, _, rfl, fun X h r => by rw [← h]; exact OpR.or op_notInStr op_notIn_seq, simr_in, ha, hb⟩ hm
theorem sim_b {t : TE} (h : Sim K E t T) : SimT K E (tB t) (TTest T) := fun M H0 ρ σ H Q Q' PX R L q k => h M H0 ρ σ H _ _ PX R L q fun d ρ' v H' z R' e o r => by
  cases r <;> first | exact z.elim | exact ⟨_, rfl, k _ _ _ z R' e o⟩
/-- a value that is True or False, as a test -/
theorem dt_val (h : DEx Γ e T) (he : ∀ (env : Env) whole, isTrue e env whole = (do let v ← whole; standAt e.pos; holding [v] (truthy v)) := by intro _ _; rfl) : DTx Γ e (TTest T) := by
  obtain ⟨t, p, s⟩ := h
  exact ⟨_, fun X h => pt_val (p X h) (he X.env), sim_b s⟩
def TAnd (a b : TDT) : TDT := fun ρ Q X => a ρ (fun c ρ1 => if c = true then b ρ1 Q X else Q false ρ1) X
def TOr (a b : TDT) : TDT := fun ρ Q X => a ρ (fun c ρ1 => if c = true then Q true ρ1 else b ρ1 Q X) X
def TNot (a : TDT) : TDT := fun ρ Q X => a ρ (fun c ρ1 => Q (!c) ρ1) X
theorem sim_and {t u : L2.TT} (h : SimT K E t TU) (h' : SimT K E u TU') : SimT K E (tAnd t u) (TAnd TU TU') := fun M H0 ρ σ H Q Q' PX R L q k => h M H0 ρ σ H _ _ PX R L q fun c ρ1 H1 z R1 e o => by
  cases c with
  | true =>
    rw [if_pos rfl] at z ⊢
    exact h' M H0 ρ1 σ H1 _ _ PX R1 L z fun b ρ2 H2 y R2 e2 o2 => k b ρ2 H2 y R2 (e.trans e2) fun q w => o q (o2 q w)
  | false =>
    rw [if_neg Bool.false_ne_true] at z ⊢
    exact k _ _ _ z R1 e o
theorem sim_or {t u : L2.TT} (h : SimT K E t TU) (h' : SimT K E u TU') : SimT K E (tOr t u) (TOr TU TU') := fun M H0 ρ σ H Q Q' PX R L q k => h M H0 ρ σ H _ _ PX R L q fun c ρ1 H1 z R1 e o => by
  cases c with
  | false =>
    rw [if_neg Bool.false_ne_true] at z ⊢
    exact h' M H0 ρ1 σ H1 _ _ PX R1 L z fun b ρ2 H2 y R2 e2 o2 => k b ρ2 H2 y R2 (e.trans e2) fun q w => o q (o2 q w)
  | true =>
    rw [if_pos rfl] at z ⊢
    exact k _ _ _ z R1 e o
theorem sim_not {t : L2.TT} (h : SimT K E t TU) : SimT K E (tNot t) (TNot TU) := fun M H0 ρ σ H Q Q' PX R L q k => h M H0 ρ σ H _ _ PX R L q fun c ρ1 H1 z R1 e o => k _ _ _ z R1 e o
def DWx (Γ : Ga) (e : Expr) (T : TDT) : Prop := ∃ t, (∀ X, OkX Γ X → PW X e t) ∧ SimT Γ.K Γ.E t T
theorem dw_and1 (h : DTx Γ a TU) : DWx Γ (.BoolOp .And [a] pos) TU := let ⟨t, p, s⟩ := h; ⟨t, fun X h => pw_and1 (p X h), s⟩
theorem dw_or1 (h : DTx Γ a TU) : DWx Γ (.BoolOp .Or [a] pos) TU := let ⟨t, p, s⟩ := h; ⟨t, fun X h => pw_or1 (p X h), s⟩
theorem dw_and (h : DTx Γ a TU) (h' : DWx Γ (.BoolOp .And (b :: es) pos) TU') : DWx Γ (.BoolOp .And (a :: b :: es) pos) (TAnd TU TU') := let ⟨t, p, s⟩ := h; let ⟨t', p', s'⟩ := h'; ⟨_, fun X h => pw_and (p X h) (p' X h), sim_and s s'⟩
theorem dw_or (h : DTx Γ a TU) (h' : DWx Γ (.BoolOp .Or (b :: es) pos) TU') : DWx Γ (.BoolOp .Or (a :: b :: es) pos) (TOr TU TU') := let ⟨t, p, s⟩ := h; let ⟨t', p', s'⟩ := h'; ⟨_, fun X h => pw_or (p X h) (p' X h), sim_or s s'⟩
theorem dt_w (h : DWx Γ e TU) : DTx Γ e TU := let ⟨t, p, s⟩ := h; ⟨t, fun X h => (p X h).pt, s⟩
theorem dt_not (h : DTx Γ a TU) : DTx Γ (.UnaryOp .Not a pos) (TNot TU) := let ⟨t, p, s⟩ := h; ⟨_, fun X h => pt_not (p X h), sim_not s⟩
/-! ### and, or, not as values (True, False) -/
def TAndV (a b : TD) : TD := fun ρ Q X => a ρ (fun d ρ1 => match d with | .bl c => (if c = true then b ρ1 Q X else Q (.bl false) ρ1) | _ => False) X
def TOrV (a b : TD) : TD := fun ρ Q X => a ρ (fun d ρ1 => match d with | .bl c => (if c = true then Q (.bl true) ρ1 else b ρ1 Q X) | _ => False) X
def TNotV (a : TD) : TD := fun ρ Q X => a ρ (fun d ρ1 => match d with | .bl c => Q (.bl (!c)) ρ1 | _ => False) X
theorem sim_andV {t u : TE} (h : Sim K E t Ta) (h' : Sim K E u Tb) : Sim K E (tAndV t u) (TAndV Ta Tb) := fun M H0 ρ σ H Q Q' PX R L q k => h M H0 ρ σ H _ _ PX R L q fun d ρ1 v H1 z R1 e o r => by
  cases r <;> first
    | exact z.elim
    | (rename_i c
       refine ⟨c, rfl, ?_⟩
       cases c with
       | true =>
         replace z : Tb ρ1 Q' PX := z
         rw [if_pos rfl]
         exact h' M H0 ρ1 σ H1 _ _ PX R1 L z fun b ρ2 w H2 y R2 e2 o2 r2 => k b ρ2 w H2 y R2 (e.trans e2) (fun q w => o q (o2 q w)) r2
       | false =>
         replace z : Q' (.bl false) ρ1 := z
         rw [if_neg Bool.false_ne_true]
         exact k _ _ _ _ z R1 e o (.bl _))
theorem sim_orV {t u : TE} (h : Sim K E t Ta) (h' : Sim K E u Tb) : Sim K E (tOrV t u) (TOrV Ta Tb) := fun M H0 ρ σ H Q Q' PX R L q k => h M H0 ρ σ H _ _ PX R L q fun d ρ1 v H1 z R1 e o r => by
  cases r <;> first
    | exact z.elim
    | (rename_i c
       refine ⟨c, rfl, ?_⟩
       cases c with
       | false =>
         replace z : Tb ρ1 Q' PX := z
         rw [if_neg Bool.false_ne_true]
         exact h' M H0 ρ1 σ H1 _ _ PX R1 L z fun b ρ2 w H2 y R2 e2 o2 r2 => k b ρ2 w H2 y R2 (e.trans e2) (fun q w => o q (o2 q w)) r2
       | true =>
         replace z : Q' (.bl true) ρ1 := z
         rw [if_pos rfl]
         exact k _ _ _ _ z R1 e o (.bl _))
theorem sim_notV {t : TE} (h : Sim K E t Ta) : Sim K E (tNotV t) (TNotV Ta) := fun M H0 ρ σ H Q Q' PX R L q k => h M H0 ρ σ H _ _ PX R L q fun d ρ1 v H1 z R1 e o r => by
  cases r <;> first | exact z.elim | exact ⟨_, rfl, k _ _ _ _ z R1 e o (.bl _)⟩
theorem de_one {op} (h : DEx Γ a T) : DEx Γ (.BoolOp op [a] pos) T := let ⟨t, p, s⟩ := h; ⟨t, fun X h => pe_one (p X h), s⟩
theorem de_and (h : DEx Γ a Ta) (h' : DEx Γ (.BoolOp .And (b :: es) pos) Tb) : DEx Γ (.BoolOp .And (a :: b :: es) pos) (TAndV Ta Tb) := let ⟨t, p, s⟩ := h; let ⟨t', p', s'⟩ := h'; ⟨_, fun X h => pe_and (p X h) (p' X h), sim_andV s s'⟩
theorem de_or (h : DEx Γ a Ta) (h' : DEx Γ (.BoolOp .Or (b :: es) pos) Tb) : DEx Γ (.BoolOp .Or (a :: b :: es) pos) (TOrV Ta Tb) := let ⟨t, p, s⟩ := h; let ⟨t', p', s'⟩ := h'; ⟨_, fun X h => pe_or (p X h) (p' X h), sim_orV s s'⟩
theorem de_not (h : DEx Γ a Ta) : DEx Γ (.UnaryOp .Not a pos) (TNotV Ta) := let ⟨t, p, s⟩ := h; ⟨_, fun X h => pe_not (p X h), sim_notV s⟩
def TIfE (c : TDT) (a b : TD) : TD := fun ρ Q X => c ρ (fun k ρ1 => if k = true then a ρ1 Q X else b ρ1 Q X) X
theorem de_if (hc : DTx Γ c TU) (ha : DEx Γ a Ta) (hb : DEx Γ b Tb) : DEx Γ (.IfExp c a b pos) (TIfE TU Ta Tb) := by
  obtain ⟨t, p, s⟩ := hc
  obtain ⟨ta, pa, sa⟩ := ha
  obtain ⟨tb, pb, sb⟩ := hb
  refine ⟨_, fun X h => pe_ifExp (p X h) (pa X h) (pb X h), fun M H0 ρ σ H Q Q' PX R L q k => s M H0 ρ σ H _ _ PX R L q fun c ρ1 H1 z R1 e o => ?_⟩
  cases c with
  | true =>
    rw [if_pos rfl] at z ⊢
    exact sa M H0 ρ1 σ H1 _ _ PX R1 L z fun b ρ2 w H2 y R2 e2 o2 r2 => k b ρ2 w H2 y R2 (e.trans e2) (fun q w => o q (o2 q w)) r2
  | false =>
    rw [if_neg Bool.false_ne_true] at z ⊢
    exact sb M H0 ρ1 σ H1 _ _ PX R1 L z fun b ρ2 w H2 y R2 e2 o2 r2 => k b ρ2 w H2 y R2 (e.trans e2) (fun q w => o q (o2 q w)) r2
/-! ### a op b op' c -/
def TChain (g g' : D → D → (D → Prop) → Prop) (a b c : TD) : TD := fun ρ Q X => a ρ (fun x ρ1 => b ρ1 (fun y ρ2 => g x y fun z => match z with | .bl k => (if k = true then c ρ2 (fun w ρ3 => g' y w fun z' => Q z' ρ3) X else Q (.bl false) ρ2) | _ => False) X) X
theorem sim_chain {r r' : R2} {g g' : D → D → (D → Prop) → Prop} {ta tb tc : TE} (hr : SimR K r g) (hr' : SimR K r' g') (ha : Sim K E ta Ta) (hb : Sim K E tb Tb) (hc : Sim K E tc Tc) : Sim K E (tChain r r' ta tb tc) (TChain g g' Ta Tb Tc) :=
  fun M H0 ρ σ H Q Q' PX R L h k => ha M H0 ρ σ H _ _ PX R L h fun dx ρ1 x H1 h1 R1 e1 o1 rx => hb M H0 ρ1 σ H1 _ _ PX R1 L h1 fun dy ρ2 y H2 h2 R2 e2 o2 ry => by
    refine hr M (Nx M ρ2 σ) H2 x y dx dy _ _ R2.inv (fun a z => R2.there z) (fun a z => .inl z) (rx.tr (tr_own o2 e2)) ry h2 fun dz z H3 q i3 e3 rz => ?_
    have R3 := R2.grow i3 e3
    cases rz <;> first
      | exact q.elim
      | (rename_i b
         refine ⟨b, rfl, ?_⟩
         cases b with
         | true =>
           replace q : Tc ρ2 (fun w ρ3 => g' dy w fun z' => Q' z' ρ3) PX := q
           rw [if_pos rfl]
           refine hc M H0 ρ2 σ H3 _ _ PX R3 L q fun dw ρ3 w H4 h4 R4 e4 o4 rw' => ?_
           exact hr' M (Nx M ρ3 σ) H4 y w dy dw _ _ R4.inv (fun a z => R4.there z) (fun a z => .inl z) ((ry.tr (tr_own (fun _ z => z) e3)).tr (tr_own o4 e4)) rw' h4 fun dz z H5 q5 i5 e5 rz =>
             k dz ρ3 z H5 q5 (R4.grow i5 e5) ((((e1.trans e2).trans e3).trans e4).trans e5) (fun q z => o1 q (o2 q (o4 q z))) rz
         | false =>
           replace q : Q' (.bl false) ρ2 := q
           rw [if_neg Bool.false_ne_true]
           exact k _ _ _ _ q R3 ((e1.trans e2).trans e3) (fun q z => o1 q (o2 q z)) (.bl _))
theorem de_leLe (ha : DEx Γ a Ta) (hb : DEx Γ b Tb) (hc : DEx Γ c Tc) (hm : lastMarks [.LtE, .LtE] [b, c] = false := by with_unfolding_all rfl) : DEx Γ (.Compare a [.LtE, .LtE] [b, c] pos) (TChain gLe gLe Ta Tb Tc) := by
  obtain ⟨ta, pa, sa⟩ := ha
  obtain ⟨tb, pb, sb⟩ := hb
  obtain ⟨tc, pc, sc⟩ := hc
  exact ⟨_, fun X h => pe_chain op_le op_le (pa X h) (pb X h) (pc X h) hm, sim_chain simr_B0 simr_B0 sa sb sc⟩
/-! ### displays -/
def TNil : TDA := fun ρ Q _ => Q [] ρ
def TCons (a : TD) (r : TDA) : TDA := fun ρ Q X => a ρ (fun d ρ1 => r ρ1 (fun ds ρ2 => Q (d :: ds) ρ2) X) X
theorem da_nil : DAx Γ [] TNil := ⟨_, fun _ _ => pa_nil, fun M H0 ρ σ H Q Q' PX R L q k => k [] ρ [] H q R Ex.refl (fun _ z => z) .nil⟩
theorem da_cons (ha : DEx Γ e Ta) (hr : DAx Γ es TA) (hs : ∀ env : Env, starEach (e :: es) env = (false, eval e env) :: starEach es env := by intro _; rfl) : DAx Γ (e :: es) (TCons Ta TA) := by
  obtain ⟨ta, pa, sa⟩ := ha
  obtain ⟨tr, pr, sr⟩ := hr
  refine ⟨_, fun X h => pa_cons (pa X h) (pr X h) (hs X.env), fun M H0 ρ σ H Q Q' PX R L q k => sa M H0 ρ σ H _ _ PX R L q fun d ρ1 v H1 q1 R1 e1 o1 r1 => sr M H0 ρ1 σ H1 _ _ PX R1 L q1 fun ds ρ2 vs H2 q2 R2 e2 o2 r2 =>
    k _ ρ2 _ H2 q2 R2 (e1.trans e2) (fun q z => o1 q (o2 q z)) (.cons (r1.tr (tr_own o2 e2)) r2)⟩
def TTup (a : TDA) : TD := fun ρ Q X => a ρ (fun ds ρ1 => ds.length ≤ 100000 ∧ Q (.tup ds) ρ1) X
def TLst (a : TDA) : TD := fun ρ Q X => a ρ (fun ds ρ1 => ds.length ≤ 100000 ∧ Q (.lst ds) ρ1) X
theorem tr_new {N : Addr → Prop} {H : Hp} {p : Addr} {o : HO} (h : H p = none) : Tr N H N (upd H p o) := fun c u nc e wt => ⟨nc, by rw [upd_ne (ne_of_none e h)]; exact e⟩
theorem de_tup {k} (h : DAx Γ es TA) : DEx Γ (.Tuple es k pos) (TTup TA) := by
  obtain ⟨t, p, s⟩ := h
  exact ⟨_, fun X h => pe_tup (p X h), fun M H0 ρ σ H Q Q' PX R L q k => s M H0 ρ σ H _ _ PX R L q fun ds ρ1 vs H1 q1 R1 e1 o1 r1 =>
    ⟨by rw [← r1.length]; exact szl q1.1, fun p hp => k _ ρ1 _ _ q1.2 (R1.grow (M.fresh _ _ _ R1.inv hp) (Ex.new hp)) (e1.trans (Ex.new hp)) o1 (.tup (.inl ⟨R1.new hp, upd_same⟩) (r1.tr (tr_new hp)))⟩⟩
theorem de_lst (h : DAx Γ es TA) : DEx Γ (.List es pos) (TLst TA) := by
  obtain ⟨t, p, s⟩ := h
  exact ⟨_, fun X h => pe_lst (p X h), fun M H0 ρ σ H Q Q' PX R L q k => s M H0 ρ σ H _ _ PX R L q fun ds ρ1 vs H1 q1 R1 e1 o1 r1 =>
    ⟨by rw [← r1.length]; exact szl q1.1, fun p hp => k _ ρ1 _ _ q1.2 (R1.grow (M.fresh _ _ _ R1.inv hp) (Ex.new hp)) (e1.trans (Ex.new hp)) o1 (.lst ⟨R1.new hp, upd_same⟩ (r1.tr (tr_new hp)))⟩⟩
/-! ### subscripts -/
def gIx : D → D → (D → Prop) → Prop := fun x y P => match y with
  | .int i => (match x with
    | .lst xs => (match atI xs i with | some d => P d | none => False)
    | .tup xs => (match atI xs i with | some d => P d | none => False)
    | .str cs => cs.length ≤ 100000 ∧ (match atI cs i with | some c => P (.str [c]) | none => False)
    | _ => False)
  | _ => False
theorem Rps.atI {N : Addr → Prop} {H : Hp} {ds : List D} {vs : List V} {i : Int} {d : D} (r : Rps N K H ds vs) (h : L2.atI ds i = some d) : ∃ v, L2.atI vs i = some v ∧ Rp N K H d v := by
  unfold L2.atI at h ⊢
  rw [← r.length]
  cases e : ixN ds.length i with
  | none => rw [e] at h; cases h
  | some j =>
    rw [e] at h
    exact r.getD h
theorem simr_ix : SimR K (rIx K) gIx := fun M N H x y dx dy Q P hi _ _ rx ry h k => by
  unfold gIx at h
  split at h
  · cases ry
    split at h
    · split at h
      · rename_i d e
        cases rx with
        | lst q r =>
          obtain ⟨v, e1, r1⟩ := r.atI e
          exact .inl ⟨_, _, _, v, rfl, rfl, q.sq, e1, k _ _ H h hi Ex.refl r1⟩
      · exact h.elim
    · split at h
      · rename_i d e
        cases rx with
        | tup q r =>
          obtain ⟨v, e1, r1⟩ := r.atI e
          exact .inr (.inl ⟨_, _, _, v, rfl, rfl, q.sq, e1, k _ _ H h hi Ex.refl r1⟩)
      · exact h.elim
    · obtain ⟨hz, h⟩ := h
      split at h
      · rename_i c e
        cases rx
        exact .inr (.inr ⟨_, _, c, rfl, rfl, by rw [S_len]; exact szl hz, e, k _ _ H h hi Ex.refl (.str [c])⟩)
      · exact h.elim
    · exact h.elim
  · exact h.elim
theorem de_ix (ha : DEx Γ a Ta) (hb : DEx Γ b Tb) (hs : PlainIx b := by intro _ _; rfl) : DEx Γ (.Subscript a b pos) (TOp gIx Ta Tb) := by
  obtain ⟨ta, pa, sa⟩ := ha
  obtain ⟨tb, pb, sb⟩ := hb
  exact ⟨_, fun X h => pe_ix (by rw [← h.K]; exact ix_seq) (pa X h) (pb X h) hs, sim_op simr_ix sa sb⟩
/-- a name's item: the name's list is not handed on -/
def TIxV (i : Nat) (b : TD) : TD := fun ρ Q X => match ρ[i]? with
  | some (some (.sh d)) => b ρ (fun y ρ1 => gIx d y fun z => Q z ρ1) X
  | some (some (.ow ds)) => b ρ (fun y ρ1 => ρ1 = ρ ∧ gIx (.lst ds) y fun z => Q z ρ1) X
  | _ => False
theorem de_ixv (i : Nat) {x : Str} {pos' : Pos} (hb : DEx Γ b Tb) (hN : Γ.N[i]? = some x := by rfl) (hv : Vis Γ.sc x := by first | exact Or.inl rfl | exact Or.inr (Or.inl rfl) | exact Or.inr (Or.inr rfl)) (hd : (x == ("__debug__" : Str)) = false := by decide)
    (hcd : (x == ("__classdict__" : Str)) = false := by decide) (hs : PlainIx b := by intro _ _; rfl) : DEx Γ (.Subscript (.Name x pos') b pos) (TIxV i Tb) := by
  obtain ⟨tb, pb, sb⟩ := hb
  refine ⟨_, fun X h => pe_ix (r := rIx Γ.K) (by rw [← h.K]; exact ix_seq) (pe_var (i := i) (by rw [h.N]; exact hN) (by rw [h.sc]; exact hv) hd hcd) (pb X h) hs, fun M H0 ρ σ H Q Q' PX R L q k => ?_⟩
  unfold TIxV at q
  split at q
  · rename_i d e
    obtain ⟨v, h1, h2⟩ := R.sh i d e
    refine ⟨v, h1, sb M H0 ρ σ H _ _ PX R L q fun dy ρ1 y H1 q1 R1 e1 o1 r1 => ?_⟩
    have t1 := tr_own o1 e1
    exact simr_ix M (Nx M ρ1 σ) H1 v y d dy _ _ R1.inv (fun a z => R1.there z) (fun a z => .inl z) (h2.tr t1) r1 q1 fun dz z H3 q i3 e3 rz => k dz ρ1 z H3 q (R1.grow i3 e3) (e1.trans e3) o1 rz
  · rename_i ds e
    obtain ⟨p, xs, h1, h2, h3, h4, h5⟩ := R.ow i ds e
    refine ⟨_, h1, sb M H0 ρ σ H _ _ PX R L q fun dy ρ1 y H1 q1 R1 e1 o1 r1 => ?_⟩
    obtain ⟨rfl, q1⟩ := q1
    unfold gIx at q1
    split at q1
    · cases r1
      simp only at q1
      split at q1
      · rename_i j d ed
        have t1 : Tr (Nx M ρ1 σ) H (Nx M ρ1 σ) H1 := tr_own (fun _ z => z) e1
        obtain ⟨v, e2, r2⟩ := (h5.tr t1).atI ed
        exact .inl ⟨p, xs, _, v, rfl, rfl, SqL.of (e1 p _ h2 h4 trivial), e2, k d ρ1 v H1 q1 R1 e1 o1 r2⟩
      · exact q1.elim
    · exact q1.elim
  · exact q.elim
def cutD {α : Type} (xs : List α) (lo hi : Option Int) : List α := (xs.drop (HT.sIx xs.length 0 lo)).take (HT.sIx xs.length xs.length hi - HT.sIx xs.length 0 lo)
abbrev TDO := En → (Option Int → En → Prop) → XP → Prop
def SimO (K : PySem.W.Frag) (E : XR) (t : TO) (T : TDO) : Prop :=
  ∀ (M : Mt K) (H0 : Hp) (ρ : En) (σ : L2.St) (H : Hp) (Q : Option Int → Hp → Prop) (Q' : Option Int → En → Prop) (PX : XP), Rep M H0 ρ σ H → LinkX M H0 E PX → T ρ Q' PX →
    (∀ b ρ' H', Q' b ρ' → Rep M H0 ρ' σ H' → Ex M H H' → (∀ q, Own ρ' σ q → Own ρ σ q) → Q b H') → t σ H Q
def DOx (Γ : Ga) (e : Option Expr) (T : TDO) : Prop := ∃ t, (∀ X, OkX Γ X → PO X e t) ∧ SimO Γ.K Γ.E t T
def TNoP : TDO := fun ρ Q _ => Q none ρ
def TPt (T : TD) : TDO := fun ρ Q X => T ρ (fun d ρ' => match d with | .int i => Q (some i) ρ' | _ => False) X
theorem do_none : DOx Γ none TNoP := ⟨_, fun _ _ => po_none, fun M H0 ρ σ H Q Q' PX R L q k => k none ρ H q R Ex.refl (fun _ z => z)⟩
theorem do_some (h : DEx Γ e T) : DOx Γ (some e) (TPt T) := by
  obtain ⟨t, p, s⟩ := h
  refine ⟨_, fun X h => po_some (p X h), fun M H0 ρ σ H Q Q' PX R L q k => s M H0 ρ σ H _ _ PX R L q fun d ρ1 v H1 q1 R1 e1 o1 r1 => ?_⟩
  cases r1 <;> first | exact q1.elim | exact ⟨_, rfl, k _ _ _ q1 R1 e1 o1⟩
def TSl (a : TD) (l h : TDO) : TD := fun ρ Q X => a ρ (fun d ρ1 => l ρ1 (fun lo ρ2 => h ρ2 (fun hi ρ3 => match d with
  | .lst xs => Q (.lst (cutD xs lo hi)) ρ3
  | .tup xs => Q (.tup (cutD xs lo hi)) ρ3
  | .str cs => cs.length ≤ 100000 ∧ Q (.str (cutD cs lo hi)) ρ3
  | _ => False) X) X) X
theorem Rps.cut {N : Addr → Prop} {H : Hp} {ds : List D} {vs : List V} (r : Rps N K H ds vs) (lo hi : Option Int) : Rps N K H (cutD ds lo hi) (cutV vs lo hi) := by
  unfold cutD cutV
  rw [r.length]
  exact (r.drop _).take _
theorem cut_whole {α : Type} {xs : List α} {lo hi : Option Int} (h : HT.sIx xs.length 0 lo = 0 ∧ HT.sIx xs.length xs.length hi = xs.length) : cutD xs lo hi = xs := by
  unfold cutD
  rw [h.1, h.2]
  simp
theorem S_cut (cs : List Nat) (lo hi : Option Int) : cutS (S cs) lo hi = S (cutD cs lo hi) := by
  unfold cutS cutD
  rw [S_len]
def rSlAny (K : PySem.W.Frag) : V → Option Int → Option Int → Hp → VK → Prop := fun x lo hi H Q => rSlA K x lo hi H Q ∨ (rSlL K x lo hi H Q ∨ rSlS x lo hi H Q)
theorem de_sl {lo hi : Option Expr} {p2 : Pos} {Tl Th : TDO} (ha : DEx Γ a Ta) (hl : DOx Γ lo Tl) (hh : DOx Γ hi Th) : DEx Γ (.Subscript a (.Slice lo hi none p2) pos) (TSl Ta Tl Th) := by
  obtain ⟨ta, pa, sa⟩ := ha
  obtain ⟨tl, pl, sl⟩ := hl
  obtain ⟨th, ph, sh⟩ := hh
  refine ⟨_, fun X h => pe_slice (r := rSlAny Γ.K) (by rw [← h.K]; exact sl_tupA.or (sl_list.or sl_str)) (pa X h) (pl X h) (ph X h), fun M H0 ρ σ H Q Q' PX R L q k => sa M H0 ρ σ H _ _ PX R L q fun d ρ1 v H1 q1 R1 e1 o1 r1 =>
    sl M H0 ρ1 σ H1 _ _ PX R1 L q1 fun lo ρ2 H2 q2 R2 e2 o2 => sh M H0 ρ2 σ H2 _ _ PX R2 L q2 fun hi ρ3 H3 q3 R3 e3 o3 => ?_⟩
  have r3 := (r1.tr (tr_own o2 e2)).tr (tr_own o3 e3)
  have ex := (e1.trans e2).trans e3
  have ow : ∀ q, Own ρ3 σ q → Own ρ σ q := fun q z => o1 q (o2 q (o3 q z))
  cases r3 with
  | lst q r => exact .inr (.inl ⟨_, _, rfl, q.sq, fun p hp => k _ ρ3 _ _ q3 (R3.grow (M.fresh _ _ _ R3.inv hp) (Ex.new hp)) (ex.trans (Ex.new hp)) ow (.lst ⟨R3.new hp, upd_same⟩ ((r.cut lo hi).tr (tr_new hp)))⟩)
  | tup q r =>
    refine .inl ⟨_, _, rfl, q.sq, fun w => k _ ρ3 _ _ q3 R3 ex ow ?_, fun _ p hp => k _ ρ3 _ _ q3 (R3.grow (M.fresh _ _ _ R3.inv hp) (Ex.new hp)) (ex.trans (Ex.new hp)) ow (.tup (.inl ⟨R3.new hp, upd_same⟩) ((r.cut lo hi).tr (tr_new hp)))⟩
    rw [← r.length] at w
    rw [cut_whole w]
    exact .tup q r
  | str cs =>
    replace q3 : cs.length ≤ 100000 ∧ Q' (.str (cutD cs lo hi)) ρ3 := q3
    refine .inr (.inr ⟨_, rfl, by rw [S_len]; exact szl q3.1, ?_⟩)
    rw [S_cut]
    exact k _ ρ3 _ _ q3.2 R3 ex ow (.str _)
  | _ => exact (show False from q3).elim
/-! ### minus -/
def TNeg (a : TD) : TD := fun ρ Q X => a ρ (fun d ρ' => match d with | .int i => Q (.int (-i)) ρ' | _ => False) X
theorem de_neg (ha : DEx Γ a Ta) : DEx Γ (.UnaryOp .USub a pos) (TNeg Ta) := by
  obtain ⟨ta, pa, sa⟩ := ha
  refine ⟨_, fun X h => pe_un un_neg (pa X h), fun M H0 ρ σ H Q Q' PX R L q k => sa M H0 ρ σ H _ _ PX R L q fun d ρ1 v H1 q1 R1 e1 o1 r1 => ?_⟩
  cases r1 <;> first | exact q1.elim | exact ⟨_, rfl, k _ _ _ _ q1 R1 e1 o1 (.int _)⟩
end
end DL
end

section
set_option Elab.async false
set_option linter.all false
set_option maxRecDepth 100000
set_option maxHeartbeats 5000000
namespace DL
open PySem L2
section
variable {Γ : Ga} {X : Cx} {K : PySem.W.Frag} {M : Mt K} {a b c e : Expr} {es : List Expr} {Ta Tb Tc T : TD} {TA : TDA} {TU TU' : TDT} {U U' : TDS} {pos : Pos} {E : XR} {H0 H H' : Hp} {ρ ρ' : En} {σ σ' : L2.St} {st : Stmt} {sts : List Stmt}

/-! ### a slot is stored -/
theorem own_setSh {i : Nat} {d : D} {v : V} {q : Addr} (h : Own (ρ.set i (some (.sh d))) (σ.set i (some v)) q) : Own ρ σ q ∧ ∃ (j : Nat) (es : List D), j ≠ i ∧ ρ[j]? = some (some (DV.ow es)) ∧ σ[j]? = some (some (V.ref q)) := by
  obtain ⟨j, es, h1, h2⟩ := h
  by_cases hj : i = j
  · subst hj
    by_cases hl : i < ρ.length
    · rw [List.getElem?_set_self hl] at h1; cases h1
    · rw [List.getElem?_eq_none (by simpa using hl)] at h1; cases h1
  · rw [List.getElem?_set_ne hj] at h1 h2
    exact ⟨⟨j, es, h1, h2⟩, j, es, fun e => hj e.symm, h1, h2⟩
theorem Rep.setSh {i : Nat} {d : D} {v : V} (R : Rep M H0 ρ σ H) (r : Rp (Nx M ρ σ) K H d v) : Rep M H0 (ρ.set i (some (.sh d))) (σ.set i (some v)) H := by
  have t : Tr (Nx M ρ σ) H (Nx M (ρ.set i (some (.sh d))) (σ.set i (some v))) H := fun a o n q wt => ⟨fun z => n (z.elim .inl fun z => .inr (own_setSh z).1), q⟩
  refine ⟨R.inv, R.ex, by rw [List.length_set, List.length_set]; exact R.len, fun j e h => ?_, fun j es h => ?_, fun j k es fs q h1 h2 h3 h4 => ?_⟩
  · by_cases hj : i = j
    · subst hj
      by_cases hl : i < ρ.length
      · rw [List.getElem?_set_self hl] at h
        cases h
        exact ⟨v, List.getElem?_set_self (by rw [← R.len]; exact hl), r.tr t⟩
      · rw [List.getElem?_eq_none (by simpa using hl)] at h; cases h
    · rw [List.getElem?_set_ne hj] at h ⊢
      obtain ⟨w, a1, a2⟩ := R.sh j e h
      exact ⟨w, a1, a2.tr t⟩
  · by_cases hj : i = j
    · subst hj
      by_cases hl : i < ρ.length
      · rw [List.getElem?_set_self hl] at h; cases h
      · rw [List.getElem?_eq_none (by simpa using hl)] at h; cases h
    · rw [List.getElem?_set_ne hj] at h ⊢
      obtain ⟨p, xs, a1, a2, a3, a4, a5⟩ := R.ow j es h
      exact ⟨p, xs, a1, a2, a3, a4, a5.tr t⟩
  · have get : ∀ (j : Nat) (es : List D) (q : Addr), (ρ.set i (some (.sh d)))[j]? = some (some (DV.ow es)) → (σ.set i (some v))[j]? = some (some (V.ref q)) → ρ[j]? = some (some (DV.ow es)) ∧ σ[j]? = some (some (V.ref q)) := fun j es q e e' => by
      by_cases hj : i = j
      · subst hj
        by_cases hl : i < ρ.length
        · rw [List.getElem?_set_self hl] at e; cases e
        · rw [List.getElem?_eq_none (by simpa using hl)] at e; cases e
      · rw [List.getElem?_set_ne hj] at e e'
        exact ⟨e, e'⟩
    exact R.dj j k es fs q (get _ _ _ h1 h3).1 (get _ _ _ h2 h4).1 (get _ _ _ h1 h3).2 (get _ _ _ h2 h4).2
/-- a new list of the slot's own -/
theorem Rep.setOw {i : Nat} {ds : List D} {q : Addr} {xs : List V} (R : Rep M H0 ρ σ H) (hn : ¬ Nx M ρ σ q) (h0 : Nw H0 q) (hq : H q = some (.lst xs)) (r : Rps (fun c => Nx M ρ σ c ∨ c = q) K H ds xs)
    (hs : ∀ (j : Nat) (d : D), ρ[j]? = some (some (.sh d)) → j ≠ i → ∃ v, σ[j]? = some (some v) ∧ Rp (fun c => Nx M ρ σ c ∨ c = q) K H d v)
    (ho : ∀ (j : Nat) (es : List D), ρ[j]? = some (some (.ow es)) → j ≠ i → ∃ p ys, σ[j]? = some (some (.ref p)) ∧ H p = some (.lst ys) ∧ Rps (fun c => Nx M ρ σ c ∨ c = q) K H es ys) :
    Rep M H0 (ρ.set i (some (.ow ds))) (σ.set i (some (.ref q))) H := by
  have own : ∀ c, Own (ρ.set i (some (.ow ds))) (σ.set i (some (.ref q))) c → Own ρ σ c ∨ c = q := fun c ⟨j, es, h1, h2⟩ => by
    by_cases hj : i = j
    · subst hj
      by_cases hl : i < σ.length
      · rw [List.getElem?_set_self hl] at h2
        cases h2
        exact .inr rfl
      · rw [List.getElem?_eq_none (by simpa using hl)] at h2; cases h2
    · rw [List.getElem?_set_ne hj] at h1 h2
      exact .inl ⟨j, es, h1, h2⟩
  have t : Tr (fun c => Nx M ρ σ c ∨ c = q) H (Nx M (ρ.set i (some (.ow ds))) (σ.set i (some (.ref q)))) H := fun a o n e wt => ⟨fun z => n (z.elim (fun z => .inl (.inl z)) fun z => (own a z).elim (fun z => .inl (.inr z)) .inr), e⟩
  refine ⟨R.inv, R.ex, by rw [List.length_set, List.length_set]; exact R.len, fun j e h => ?_, fun j es h => ?_, fun j k es fs p h1 h2 h3 h4 => ?_⟩
  · by_cases hj : i = j
    · subst hj
      by_cases hl : i < ρ.length
      · rw [List.getElem?_set_self hl] at h; cases h
      · rw [List.getElem?_eq_none (by simpa using hl)] at h; cases h
    · rw [List.getElem?_set_ne hj] at h ⊢
      obtain ⟨w, a1, a2⟩ := hs j e h fun z => hj z.symm
      exact ⟨w, a1, a2.tr t⟩
  · by_cases hj : i = j
    · subst hj
      by_cases hl : i < ρ.length
      · rw [List.getElem?_set_self hl] at h
        cases h
        exact ⟨q, xs, List.getElem?_set_self (by rw [← R.len]; exact hl), fun z => hn (.inl z), h0, hq, r.tr t⟩
      · rw [List.getElem?_eq_none (by simpa using hl)] at h; cases h
    · rw [List.getElem?_set_ne hj] at h ⊢
      obtain ⟨p, ys, a1, a2, a3, a4, a5⟩ := R.ow j es h
      obtain ⟨p', ys', b1, b2, b3⟩ := ho j es h fun z => hj z.symm
      rw [a1] at b1; cases b1
      rw [a4] at b2; cases b2
      exact ⟨p, ys, a1, a2, a3, a4, b3.tr t⟩
  · by_cases hj : i = j
    · by_cases hk : i = k
      · rw [← hj, ← hk]
      · subst hj
        have hl : i < σ.length := by
          have := (List.getElem?_eq_some_iff.mp h3).1
          simpa using this
        rw [List.getElem?_set_self hl] at h3
        cases h3
        rw [List.getElem?_set_ne hk] at h2 h4
        exact absurd (.inr ⟨k, fs, h2, h4⟩) hn
    · by_cases hk : i = k
      · subst hk
        have hl : i < σ.length := by
          have := (List.getElem?_eq_some_iff.mp h4).1
          simpa using this
        rw [List.getElem?_set_self hl] at h4
        cases h4
        rw [List.getElem?_set_ne hj] at h1 h3
        exact absurd (.inr ⟨j, es, h1, h3⟩) hn
      · rw [List.getElem?_set_ne hj] at h1 h3
        rw [List.getElem?_set_ne hk] at h2 h4
        exact R.dj j k es fs p h1 h2 h3 h4
/-! ### expressions that give a new list -/
/-- no slot reaches p -/
def Av (M : Mt K) (ρ : En) (σ : L2.St) (p : Addr) (H : Hp) : Prop :=
  (∀ (j : Nat) (d : D), ρ[j]? = some (some (.sh d)) → ∃ v, σ[j]? = some (some v) ∧ Rp (fun c => Nx M ρ σ c ∨ c = p) K H d v) ∧
  (∀ (j : Nat) (es : List D), ρ[j]? = some (some (.ow es)) → ∃ q ys, σ[j]? = some (some (.ref q)) ∧ H q = some (.lst ys) ∧ Rps (fun c => Nx M ρ σ c ∨ c = p) K H es ys)
theorem Rep.av {p : Addr} (R : Rep M H0 ρ σ H) (hp : Nw H p) (e : Ex M H H') : Av M ρ σ p H' := by
  have t : Tr (Nx M ρ σ) H (fun c => Nx M ρ σ c ∨ c = p) H' := fun c o n z wt => ⟨fun y => y.elim n (fun y => by (rw [y] at z; exact hp o z wt)), e c o (fun y => n (.inl y)) z wt⟩
  refine ⟨fun j d h => ?_, fun j es h => ?_⟩
  · obtain ⟨v, a, b⟩ := R.sh j d h
    exact ⟨v, a, b.tr t⟩
  · obtain ⟨q, ys, a1, a2, a3, a4, a5⟩ := R.ow j es h
    exact ⟨q, ys, a1, e q _ a2 a4 trivial, a5.tr t⟩
abbrev TDL := En → (List D → En → Prop) → XP → Prop
def SimL (K : PySem.W.Frag) (E : XR) (t : TE) (T : TDL) : Prop :=
  ∀ (M : Mt K) (H0 : Hp) (ρ : En) (σ : L2.St) (H : Hp) (Q : VK) (Q' : List D → En → Prop) (PX : XP), Rep M H0 ρ σ H → LinkX M H0 E PX → T ρ Q' PX →
    (∀ ds ρ' p xs H', Q' ds ρ' → Rep M H0 ρ' σ H' → Ex M H H' → (∀ q, Own ρ' σ q → Own ρ σ q) → Nw H p → H' p = some (.lst xs) → ¬ Nx M ρ' σ p → Rps (Nx M ρ' σ) K H' ds xs →
      Rps (fun c => Nx M ρ' σ c ∨ c = p) K H' ds xs → Av M ρ' σ p H' → Q (.ref p) H') → t σ H Q
def DLx (Γ : Ga) (e : Expr) (T : TDL) : Prop := ∃ t, (∀ X, OkX Γ X → PE X e t) ∧ SimL Γ.K Γ.E t T
def TOfL (T : TDL) : TD := fun ρ Q X => T ρ (fun ds ρ' => Q (.lst ds) ρ') X
theorem sim_ofL {t : TE} {T : TDL} (h : SimL K E t T) : Sim K E t (TOfL T) := fun M H0 ρ σ H Q Q' PX R L q k => h M H0 ρ σ H Q _ PX R L q fun ds ρ' p xs H' q R' e o n h1 h2 r _ _ => k _ ρ' _ H' q R' e o (.lst ⟨h2, h1⟩ r)
theorem de_ofL {T : TDL} (h : DLx Γ e T) : DEx Γ e (TOfL T) := let ⟨t, p, s⟩ := h; ⟨t, p, sim_ofL s⟩
def TLstL (a : TDA) : TDL := fun ρ Q X => a ρ (fun ds ρ1 => ds.length ≤ 100000 ∧ Q ds ρ1) X
theorem dl_lst (h : DAx Γ es TA) : DLx Γ (.List es pos) (TLstL TA) := by
  obtain ⟨t, p, s⟩ := h
  exact ⟨_, fun X h => pe_lst (p X h), fun M H0 ρ σ H Q Q' PX R L q k => s M H0 ρ σ H _ _ PX R L q fun ds ρ1 vs H1 q1 R1 e1 o1 r1 =>
    ⟨by rw [← r1.length]; exact szl q1.1, fun p hp => k _ ρ1 p _ _ q1.2 (R1.grow (M.fresh _ _ _ R1.inv hp) (Ex.new hp)) (e1.trans (Ex.new hp)) o1 (Nw.back e1 (fun y => M.nfree _ _ R1.inv y hp) (.of hp)) upd_same (R1.new hp) (r1.tr (tr_new hp)) (r1.tr fun c o n z wt => ⟨fun y => y.elim n (fun y => by (rw [y, hp] at z; cases z)), by rw [upd_ne (ne_of_none z hp)]; exact z⟩) (R1.av (.of hp) (Ex.new hp))⟩⟩

/-! ### statements -/
theorem ds_nil : DSs Γ [] (fun D ρ _ => D.nx ρ) := ⟨tNext, fun _ _ => pss_nil, fun M H0 ρ σ H D0 D' PX R L K h => K.nx _ _ _ R h⟩
def TSeq (U U' : TDS) : TDS := fun D ρ X => U { D with nx := fun ρ' => U' D ρ' X } ρ X
theorem sim_seq {t u : TS} (h : SimS K E t U) (h' : SimS K E u U') : SimS K E (tSeq t u) (TSeq U U') := fun M H0 ρ σ H D0 D' PX R L k q =>
  h M H0 ρ σ H { D0 with nx := u D0 } { D' with nx := fun ρ' => U' D' ρ' PX } PX R L ⟨fun ρ1 σ1 H1 R1 z => h' M H0 ρ1 σ1 H1 D0 D' PX R1 L k z, k.rt, k.bk, k.ct⟩ q
theorem ds_cons (h : DS Γ st U) (h' : DSs Γ sts U') : DSs Γ (st :: sts) (TSeq U U') := let ⟨t, p, s⟩ := h; let ⟨t', p', s'⟩ := h'; ⟨_, fun X h => pss_cons (p X h) (p' X h), sim_seq s s'⟩
theorem ds_one (h : DS Γ st U) : DSs Γ [st] U := let ⟨t, p, s⟩ := h; ⟨_, fun X h => pss_one (p X h), s⟩
def TSet (i : Nat) (T : TD) : TDS := fun D ρ X => T ρ (fun d ρ1 => D.nx (ρ1.set i (some (.sh d)))) X
theorem sim_set {t : TE} {i : Nat} (h : Sim K E t T) : SimS K E (tAsg t (gName i)) (TSet i T) := fun M H0 ρ σ H D0 D' PX R L k q =>
  h M H0 ρ σ H _ _ PX R L q fun d ρ1 v H1 q1 R1 e1 o1 r1 => k.nx _ _ _ (R1.setSh r1) q1
theorem ds_set (i : Nat) {x : Str} {pos' : Pos} (he : DEx Γ e T) (hN : Γ.N.Nodup) (hi : Γ.N[i]? = some x := by rfl) (hx : LocF Γ x := by first | exact Or.inl rfl | exact Or.inr ⟨rfl, rfl⟩) (hs : ∀ env, swapsWith e (some (.Name x pos')) pos.line env = pure false := by intro _; rfl) :
    DS Γ (.Assign [.Name x pos'] e pos) (TSet i T) := by
  obtain ⟨t, p, s⟩ := he
  exact ⟨_, fun X h => ps_set (by rw [h.N]; exact hN) (by rw [h.N]; exact hi) (hx.loc h) (p X h) (hs _) (hx.fn h), sim_set s⟩
def TSetL (i : Nat) (T : TDL) : TDS := fun D ρ X => T ρ (fun ds ρ1 => D.nx (ρ1.set i (some (.ow ds)))) X
theorem sim_setL {t : TE} {i : Nat} {T : TDL} (h : SimL K E t T) : SimS K E (tAsg t (gName i)) (TSetL i T) := fun M H0 ρ σ H D0 D' PX R L k q =>
  h M H0 ρ σ H _ _ PX R L q fun ds ρ1 p xs H1 q1 R1 e1 o1 hp h1 n1 r1 rp av => by
    exact k.nx _ _ _ (R1.setOw n1 (Nw.back R.ex (fun y => n1 (.inl y)) hp) h1 rp (fun j d hj _ => av.1 j d hj) (fun j es hj _ => av.2 j es hj)) q1
theorem ds_setL (i : Nat) {x : Str} {pos' : Pos} {T : TDL} (he : DLx Γ e T) (hN : Γ.N.Nodup) (hi : Γ.N[i]? = some x := by rfl) (hx : LocF Γ x := by first | exact Or.inl rfl | exact Or.inr ⟨rfl, rfl⟩) (hs : ∀ env, swapsWith e (some (.Name x pos')) pos.line env = pure false := by intro _; rfl) :
    DS Γ (.Assign [.Name x pos'] e pos) (TSetL i T) := by
  obtain ⟨t, p, s⟩ := he
  exact ⟨_, fun X h => ps_set (by rw [h.N]; exact hN) (by rw [h.N]; exact hi) (hx.loc h) (p X h) (hs _) (hx.fn h), sim_setL s⟩
def TRet (T : TD) : TDS := fun D ρ X => T ρ (fun d _ => D.rt d) X
theorem Rep.toDom (R : Rep M H0 ρ σ H) {d : D} {v : V} (r : Rp (Nx M ρ σ) K H d v) : Rp M.dom K H d v := r.tr fun c o n e wt => ⟨fun z => n (.inl z), e⟩
theorem ds_ret (he : DEx Γ e T) : DS Γ (.Return (some e) pos) (TRet T) := by
  obtain ⟨t, p, s⟩ := he
  exact ⟨_, fun X h => ps_ret (p X h), fun M H0 ρ σ H D0 D' PX R L k q => s M H0 ρ σ H _ _ PX R L q fun d ρ1 v H1 q1 R1 e1 o1 r1 => k.rt d v H1 R1.ex R1.inv (R1.toDom r1) q1⟩
theorem ds_retN : DS Γ (.Return none pos) (fun D _ _ => D.rt .non) := ⟨tRetN, fun _ _ => ps_retN, fun M H0 ρ σ H D0 D' PX R L k q => k.rt _ _ _ R.ex R.inv .non q⟩
def TIf (c : TDT) (U U' : TDS) : TDS := fun D ρ X => c ρ (fun k ρ1 => if k = true then U D ρ1 X else U' D ρ1 X) X
theorem ds_if {ss ss' : List Stmt} (hc : DTx Γ c TU) (h : DSs Γ ss U) (h' : DSs Γ ss' U') : DS Γ (.If c ss ss' pos) (TIf TU U U') := by
  obtain ⟨t, p, s⟩ := hc
  obtain ⟨t1, p1, s1⟩ := h
  obtain ⟨t2, p2, s2⟩ := h'
  refine ⟨_, fun X h => ps_if (p X h) (p1 X h) (p2 X h), fun M H0 ρ σ H D0 D' PX R L k q => s M H0 ρ σ H _ _ PX R L q fun c ρ1 H1 z R1 e o => ?_⟩
  cases c with
  | true =>
    rw [if_pos rfl] at z ⊢
    exact s1 M H0 ρ1 σ H1 D0 D' PX R1 L k z
  | false =>
    rw [if_neg Bool.false_ne_true] at z ⊢
    exact s2 M H0 ρ1 σ H1 D0 D' PX R1 L k z
def TDrop (T : TD) : TDS := fun D ρ X => T ρ (fun _ ρ1 => D.nx ρ1) X
theorem ds_expr (he : DEx Γ e T) (hs : ∀ env, swapsWith e none pos.line env = pure false := by intro _; rfl) : DS Γ (.Expr e pos) (TDrop T) := by
  obtain ⟨t, p, s⟩ := he
  exact ⟨_, fun X h => ps_expr (p X h) (hs _), fun M H0 ρ σ H D0 D' PX R L k q => s M H0 ρ σ H _ _ PX R L q fun d ρ1 v H1 q1 R1 e1 o1 r1 => k.nx _ _ _ R1 q1⟩
theorem ds_pass : DS Γ (.Pass pos) (fun D ρ _ => D.nx ρ) := ⟨_, fun _ _ => ps_pass, fun M H0 ρ σ H D0 D' PX R L k q => k.nx _ _ _ R q⟩
theorem ds_break : DS Γ (.Break pos) (fun D ρ _ => D.bk ρ) := ⟨_, fun _ _ => ps_break, fun M H0 ρ σ H D0 D' PX R L k q => k.bk _ _ _ R q⟩
theorem ds_continue : DS Γ (.Continue pos) (fun D ρ _ => D.ct ρ) := ⟨_, fun _ _ => ps_continue, fun M H0 ρ σ H D0 D' PX R L k q => k.ct _ _ _ R q⟩
theorem ds_never : DS Γ st (fun _ _ _ => False) := ⟨tNever, fun _ _ => ps_never, fun M H0 ρ σ H D0 D' PX R L k q => q⟩
theorem dss_never : DSs Γ sts (fun _ _ _ => False) := ⟨tNever, fun _ _ => pss_never, fun M H0 ρ σ H D0 D' PX R L k q => q⟩
/-! ### a slot's own list is changed -/
theorem Rep.mut {i : Nat} {ds es : List D} {q : Addr} {xs ys : List V} (R : Rep M H0 ρ σ H) (h : ρ[i]? = some (some (.ow ds))) (hq : σ[i]? = some (some (.ref q))) (hx : H q = some (.lst xs)) (r : Rps (Nx M ρ σ) K H es ys) :
    Rep M H0 (ρ.set i (some (.ow es))) σ (upd H q (.lst ys)) := by
  obtain ⟨q', xs', a1, a2, a3, a4, a5⟩ := R.ow i ds h
  rw [hq] at a1; cases a1
  have lt : i < ρ.length := (List.getElem?_eq_some_iff.mp h).1
  have own : ∀ c, Own (ρ.set i (some (.ow es))) σ c → Own ρ σ c := fun c ⟨j, fs, h1, h2⟩ => by
    by_cases hj : i = j
    · subst hj
      exact ⟨i, ds, h, h2⟩
    · rw [List.getElem?_set_ne hj] at h1
      exact ⟨j, fs, h1, h2⟩
  have oq : Own ρ σ q := ⟨i, ds, h, hq⟩
  have t : Tr (Nx M ρ σ) H (Nx M (ρ.set i (some (.ow es))) σ) (upd H q (.lst ys)) := fun c o n e wt => ⟨fun z => n (z.elim .inl fun z => .inr (own c z)), by rw [upd_ne (fun z => n (by rw [z]; exact .inr oq))]; exact e⟩
  refine ⟨M.other H q _ _ R.inv a2 hx trivial, fun c o n e wt => ?_, by rw [List.length_set]; exact R.len, fun j d e => ?_, fun j fs e => ?_, fun j k fs gs p e1 e2 e3 e4 => ?_⟩
  · have := R.ex c o n e wt
    rw [upd_ne (fun z => by rw [z] at e; exact a3 _ e wt)]
    exact this
  · by_cases hj : i = j
    · subst hj
      rw [List.getElem?_set_self lt] at e; cases e
    · rw [List.getElem?_set_ne hj] at e
      obtain ⟨v, b1, b2⟩ := R.sh j d e
      exact ⟨v, b1, b2.tr t⟩
  · by_cases hj : i = j
    · subst hj
      rw [List.getElem?_set_self lt] at e
      cases e
      exact ⟨q, ys, hq, a2, a3, upd_same, r.tr t⟩
    · rw [List.getElem?_set_ne hj] at e
      obtain ⟨p, zs, b1, b2, b3, b4, b5⟩ := R.ow j fs e
      have ne : p ≠ q := fun z => by
        subst z
        exact hj (R.dj i j ds fs _ h e hq b1)
      exact ⟨p, zs, b1, b2, b3, by rw [upd_ne ne]; exact b4, b5.tr t⟩
  · have get : ∀ (j : Nat) (fs : List D), (ρ.set i (some (.ow es)))[j]? = some (some (DV.ow fs)) → ∃ fs', ρ[j]? = some (some (DV.ow fs')) := fun j fs e => by
      by_cases hj : i = j
      · subst hj
        exact ⟨ds, h⟩
      · rw [List.getElem?_set_ne hj] at e
        exact ⟨fs, e⟩
    obtain ⟨f1, g1⟩ := get j fs e1
    obtain ⟨f2, g2⟩ := get k gs e2
    exact R.dj j k f1 f2 p g1 g2 e3 e4
/-- x.append(e), x the slot i's own list -/
def TApp (i : Nat) (T : TD) : TDS := fun D ρ X => match ρ[i]? with
  | some (some (.ow _)) => T ρ (fun d ρ1 => match ρ1[i]? with
    | some (some (.ow ds)) => ds.length ≤ 100000 ∧ D.nx (ρ1.set i (some (.ow (ds ++ [d]))))
    | _ => False) X
  | _ => False
theorem ds_app (i : Nat) {x : Str} {p1 p2 pos pos' : Pos} (he : DEx Γ e T) (hN : Γ.N[i]? = some x := by rfl) (hv : Vis Γ.sc x := by first | exact Or.inl rfl | exact Or.inr (Or.inl rfl) | exact Or.inr (Or.inr rfl)) (hd : (x == ("__debug__" : Str)) = false := by decide)
    (hcd : (x == ("__classdict__" : Str)) = false := by decide)
    (hbase : ∀ env : Env, attributeBase (.Name x p1) "append" env (eval (.Name x p1) env) = eval (.Name x p1) env := by intro _; rfl)
    (hfew : ∀ env : Env, ((backTo pos (starEach [e] env)).all (fun x => !x.1) && (backToKw pos (keywordEach [] env)).all (fun x => x.1.isSome)
      && decide (([e] : List Expr).length + ([] : List Keyword).length + (if ([] : List Keyword).isEmpty then 0 else 1) < 30)) = true := by intro _; rfl)
    (hline : (p2.endLine == pos.line) = true := by rfl) (hs : ∀ env : Env, starEach [e] env = (false, eval e env) :: starEach [] env := by intro _; rfl) (hplain : ∀ env : Env, (backTo pos (starEach [] env)).any (·.1) = false := by intro _; rfl)
    (hw : ∀ env, swapsWith (.Call (.Attribute (.Name x p1) "append" p2) [e] [] pos) none pos'.line env = pure false := by intro _; rfl) :
    DS Γ (.Expr (.Call (.Attribute (.Name x p1) "append" p2) [e] [] pos) pos') (TApp i T) := by
  obtain ⟨t, p, s⟩ := he
  refine ⟨tDrop (tBM Γ.K "list" rAppend (tVar i) (tCons t tNil)), fun X h => ps_expr (by
    rw [← h.K]
    exact pe_bm PySem.F.plainAttrs_list PySem.F.slot_list_append PySem.F.type_list_append mt_append (pe_var (i := i) (by rw [h.N]; exact hN) (by rw [h.sc]; exact hv) hd hcd) (pa_cons (p X h) pa_nil (hs _)) (hbase _) (hfew _) hline (hs _) (hplain _)) (hw _), fun M H0 ρ σ H D0 D' PX R L k q => ?_⟩
  unfold TApp at q
  split at q
  · rename_i ds0 ed0
    obtain ⟨q0, xs0, hq, nd, _, hx, _⟩ := R.ow i ds0 ed0
    refine ⟨_, hq, .inl ⟨rfl, _, .inl (.inl hx)⟩, s M H0 ρ σ H _ _ PX R L q fun d ρ1 v H1 q1 R1 e1 o1 r1 => ?_⟩
    split at q1
    · rename_i ds ed
      obtain ⟨q', xs, a1, a2, a3, a4, a5⟩ := R1.ow i ds ed
      rw [hq] at a1; cases a1
      refine ⟨q0, xs, v, rfl, rfl, a4, ?_, k.nx _ _ _ (R1.mut ed hq a4 (a5.app (Rps.one r1))) q1.2⟩
      rw [← a5.length]
      exact szlt q1.1
    · exact q1.elim
  · exact q.elim
end
end DL
end

section
set_option Elab.async false
set_option linter.all false
set_option maxRecDepth 100000
set_option maxHeartbeats 5000000
namespace DL
open PySem L2
section
variable {Γ : Ga} {X : Cx} {K : PySem.W.Frag} {M : Mt K} {H0' : Hp} {PX : XP} {a b c e : Expr} {es : List Expr} {Ta Tb Tc T : TD} {TA : TDA} {TU TU' : TDT} {U U' : TDS} {pos : Pos} {E : XR} {H0 H H' : Hp} {ρ ρ' : En} {σ σ' : L2.St} {st : Stmt} {sts : List Stmt}
/-- a global name of the def -/
def GlB (Γ : Ga) (x : Str) : Prop := Γ.sc.names.lookup x = some .globalImplicit
theorem OkX.gl {x : Str} (h : OkX Γ X) (hg : GlB Γ x) : Gl X x := by
  show X.env.scope.names.lookup x = _
  rw [h.sc]
  exact hg
/-! ### the base moved to here -/
open Classical in
noncomputable def cutH (ρ : En) (σ : L2.St) (H : Hp) : Hp := fun c => if Own ρ σ c then none else H c
theorem cutH_some {c : Addr} {o : HO} (h : cutH ρ σ H c = some o) : ¬ Own ρ σ c ∧ H c = some o := by
  unfold cutH at h
  split at h
  · cases h
  · rename_i n
    exact ⟨n, h⟩
theorem cutH_of {c : Addr} {o : HO} (n : ¬ Own ρ σ c) (h : H c = some o) : cutH ρ σ H c = some o := by
  unfold cutH
  rw [if_neg n]
  exact h
theorem cutH_none {c : Addr} (h : H c = none) : cutH ρ σ H c = none := by
  unfold cutH
  split
  · rfl
  · exact h
theorem cutH_own {c : Addr} (h : Own ρ σ c) : cutH ρ σ H c = none := if_pos h
theorem Rep.base (R : Rep M H0 ρ σ H) : Rep M (cutH ρ σ H) ρ σ H ∧ (∀ H', Ex M (cutH ρ σ H) H' → Ex M H0 H') ∧ (∀ ρ' σ' H', Rep M (cutH ρ σ H) ρ' σ' H' → Rep M H0 ρ' σ' H') := by
  have ex : ∀ H', Ex M (cutH ρ σ H) H' → Ex M H0 H' := fun H' e c o n h wt => e c o n (cutH_of (fun z => (R.own z).2.1 o h wt) (R.ex c o n h wt)) wt
  refine ⟨⟨R.inv, fun c o n h wt => (cutH_some h).2, R.len, R.sh, fun i ds h => ?_, R.dj⟩, ex, fun ρ' σ' H' R' => ⟨R'.inv, ex _ R'.ex, R'.len, R'.sh, fun i ds h => ?_, R'.dj⟩⟩
  · obtain ⟨q, xs, a1, a2, a3, a4, a5⟩ := R.ow i ds h
    exact ⟨q, xs, a1, a2, .of (cutH_own ⟨i, ds, h, a1⟩), a4, a5⟩
  · obtain ⟨q, xs, a1, a2, a3, a4, a5⟩ := R'.ow i ds h
    exact ⟨q, xs, a1, a2, fun o z wt => a3 o (cutH_of (fun y => (R.own y).2.1 o z wt) (R.ex q o a2 z wt)) wt, a4, a5⟩
theorem LinkX.base (L : LinkX M H0 E PX) (h : ∀ H', Ex M H0' H' → Ex M H0 H') : LinkX M H0' E PX := ⟨L.1, fun x cls d H' p e i r => L.2 x cls d H' p (h _ e) i r⟩
theorem Link.base {D0 : Ends} {D' : DE} (L : Link M H0 D0 D') (h : ∀ H', Ex M H0' H' → Ex M H0 H') (h' : ∀ ρ' σ' H', Rep M H0' ρ' σ' H' → Rep M H0 ρ' σ' H') : Link M H0' D0 D' :=
  ⟨fun ρ σ H R => L.nx ρ σ H (h' _ _ _ R), fun d v H e => L.rt d v H (h _ e), fun ρ σ H R => L.bk ρ σ H (h' _ _ _ R), fun ρ σ H R => L.ct ρ σ H (h' _ _ _ R)⟩

/-! ### what is walked -/
/-- from the heap Hc on, J gives the things ds -/
def Yl (M : Mt K) (Hc : Hp) (J : It) (ds : List D) : Prop :=
  ∀ (inv' : Hp → Prop), (∀ H q o, inv' H → H q = none → inv' (upd H q o)) → ∀ (H : Hp) (N : Addr → Prop), inv' H → Ex M Hc H → (∀ c, N c → H c ≠ none) → (∀ c, N c → M.dom c ∨ Nw Hc c) → (∀ c, M.dom c → N c) →
    (∀ i, i < ds.length → J.go i H) ∧ J.stop ds.length H ∧ ∀ i x H', i < ds.length → J.yld i H x H' → ∃ d, ds[i]? = some d ∧ inv' H' ∧ Ex M H H' ∧ Rp N K H' d x
abbrev TDI := En → (List D → En → Prop) → XP → Prop
def SimI (K : PySem.W.Frag) (E : XR) (wi : TI) (Ti : TDI) : Prop :=
  ∀ (M : Mt K) (H0 : Hp) (ρ : En) (σ : L2.St) (H : Hp) (R : It → Hp → Prop) (Q' : List D → En → Prop) (PX : XP), Rep M H0 ρ σ H → LinkX M H0 E PX → Ti ρ Q' PX →
    (∀ ds ρ' J H', Q' ds ρ' → Rep M H0 ρ' σ H' → Ex M H H' → (∀ q, Own ρ' σ q → Own ρ σ q) → Yl M (cutH ρ' σ H') J ds → R J H') → wi σ H R
def DIx (Γ : Ga) (tg iter : Expr) (T : TDI) : Prop := ∃ wi, (∀ X, OkX Γ X → PI X tg iter wi) ∧ SimI Γ.K Γ.E wi T
def wipeD (ρ : En) : List Nat → En
  | [] => ρ
  | v :: vs => (wipeD ρ vs).set v none
theorem wipeD_some {i : Nat} {x : DV} : ∀ {vs : List Nat}, (wipeD ρ vs)[i]? = some (some x) → ρ[i]? = some (some x) ∧ i ∉ vs
  | [], h => ⟨h, by simp⟩
  | v :: vs, h => by
    unfold wipeD at h
    by_cases hi : v = i
    · rw [hi, List.getElem?_set] at h
      simp only [if_true] at h
      split at h
      · exact nomatch h
      · exact nomatch h
    · rw [List.getElem?_set, if_neg hi] at h
      have z := wipeD_some h
      exact ⟨z.1, fun m => (List.mem_cons.mp m).elim (fun e => hi e.symm) z.2⟩
theorem wipe_at {i : Nat} : ∀ {vs : List Nat}, i ∉ vs → (wipe σ vs)[i]? = σ[i]?
  | [], _ => rfl
  | v :: vs, h => by
    unfold wipe
    rw [List.getElem?_set_ne (fun e => h (by simp [e]))]
    exact wipe_at fun z => h (by simp [z])
theorem wipeD_len : ∀ {vs : List Nat}, (wipeD ρ vs).length = ρ.length
  | [] => rfl
  | v :: vs => by unfold wipeD; rw [List.length_set, wipeD_len]
/-- targets, on data; in a comprehension (some vs) the slots but vs stay -/
def wipeOk (vs : Option (List Nat)) (σ σ' : L2.St) (ρ ρ' : En) : Prop := match vs with
  | none => True
  | some vs => wipe σ' vs = wipe σ vs ∧ wipeD ρ' vs = wipeD ρ vs
abbrev TDG := D → En → (En → Prop) → Prop
abbrev TDGs := List D → En → (En → Prop) → Prop
def SimG (K : PySem.W.Frag) (vs : Option (List Nat)) (g : TG) (G : TDG) : Prop :=
  ∀ (M : Mt K) (H0 : Hp) (ρ : En) (σ : L2.St) (H : Hp) (d : D) (x : V) (P : En → Prop) (R : L2.St → Hp → Prop), Rep M H0 ρ σ H → Rp (Nx M ρ σ) K H d x → G d ρ P →
    (∀ ρ2 σ2, P ρ2 → Rep M H0 ρ2 σ2 H → wipeOk vs σ σ2 ρ ρ2 → (∀ q, Own ρ2 σ2 q → Own ρ σ q) → R σ2 H) → g x σ H R
def SimGs (K : PySem.W.Frag) (vs : Option (List Nat)) (g : TGs) (G : TDGs) : Prop :=
  ∀ (M : Mt K) (H0 : Hp) (ρ : En) (σ : L2.St) (H : Hp) (d : List D) (x : List V) (P : En → Prop) (R : L2.St → Hp → Prop), Rep M H0 ρ σ H → Rps (Nx M ρ σ) K H d x → G d ρ P →
    (∀ ρ2 σ2, P ρ2 → Rep M H0 ρ2 σ2 H → wipeOk vs σ σ2 ρ ρ2 → (∀ q, Own ρ2 σ2 q → Own ρ σ q) → R σ2 H) → g x σ H R
def DGx (Γ : Ga) (vs : Option (List Nat)) (tg : Expr) (G : TDG) : Prop := ∃ g, (∀ X, OkX Γ X → PG X tg g) ∧ SimG Γ.K vs g G
def DGsx (Γ : Ga) (vs : Option (List Nat)) (tg : List Expr) (G : TDGs) : Prop := ∃ g, (∀ X, OkX Γ X → PGs X tg g) ∧ SimGs Γ.K vs g G
def GName (i : Nat) : TDG := fun d ρ P => P (ρ.set i (some (.sh d)))
theorem wipe_set {i : Nat} {v : Option V} : ∀ {vs : List Nat}, i ∈ vs → wipe (σ.set i v) vs = wipe σ vs
  | [], h => by cases h
  | j :: vs, h => by
    unfold wipe
    by_cases hj : i = j
    · subst hj
      by_cases hm : i ∈ vs
      · rw [wipe_set hm]
      · have : ∀ (vs : List Nat), i ∉ vs → wipe (σ.set i v) vs = (wipe σ vs).set i v := fun vs => by
          induction vs with
          | nil => intro _; rfl
          | cons k ks ih =>
            intro hk
            have h1 : i ≠ k := fun e => hk (by simp [e])
            have h2 : i ∉ ks := fun e => hk (by simp [e])
            unfold wipe
            rw [ih h2, List.set_comm _ _ h1]
        rw [this vs hm, List.set_set]
    · rw [wipe_set ((List.mem_cons.mp h).resolve_left hj)]
def inVs (vs : Option (List Nat)) (i : Nat) : Bool := match vs with
  | none => true
  | some vs => vs.contains i
theorem wipeD_set {i : Nat} {v : Option DV} : ∀ {vs : List Nat}, i ∈ vs → wipeD (ρ.set i v) vs = wipeD ρ vs
  | [], h => by cases h
  | j :: vs, h => by
    unfold wipeD
    by_cases hj : i = j
    · subst hj
      by_cases hm : i ∈ vs
      · rw [wipeD_set hm]
      · have : ∀ (vs : List Nat), i ∉ vs → wipeD (ρ.set i v) vs = (wipeD ρ vs).set i v := fun vs => by
          induction vs with
          | nil => intro _; rfl
          | cons k ks ih =>
            intro hk
            have h1 : i ≠ k := fun e => hk (by simp [e])
            have h2 : i ∉ ks := fun e => hk (by simp [e])
            unfold wipeD
            rw [ih h2, List.set_comm _ _ h1]
        rw [this vs hm, List.set_set]
    · rw [wipeD_set ((List.mem_cons.mp h).resolve_left hj)]
theorem wipeOk_set {vs : Option (List Nat)} {i : Nat} {v : Option V} {v' : Option DV} (h : inVs vs i = true) : wipeOk vs σ (σ.set i v) ρ (ρ.set i v') := by
  cases vs with
  | none => trivial
  | some vs => exact ⟨wipe_set (List.contains_iff_mem.mp h), wipeD_set (List.contains_iff_mem.mp h)⟩
theorem wipeOk.trans {vs : Option (List Nat)} {σ1 σ2 : L2.St} {ρ1 ρ2 : En} (h : wipeOk vs σ σ1 ρ ρ1) (h' : wipeOk vs σ1 σ2 ρ1 ρ2) : wipeOk vs σ σ2 ρ ρ2 := by
  cases vs with
  | none => trivial
  | some vs => exact ⟨h'.1.trans h.1, h'.2.trans h.2⟩
theorem wipeOk.rfl' {vs : Option (List Nat)} : wipeOk vs σ σ ρ ρ := by
  cases vs with
  | none => trivial
  | some vs => exact ⟨rfl, rfl⟩
theorem sim_gname {vs : Option (List Nat)} (i : Nat) (hi : inVs vs i = true) : SimG K vs (gName i) (GName i) := fun M H0 ρ σ H d x P R Rp' r h k =>
  k _ _ h (Rp'.setSh r) (wipeOk_set hi) fun q z => (own_setSh z).1
theorem dg_name {vs : Option (List Nat)} (i : Nat) {x : Str} (hN : Γ.N.Nodup) (hi : Γ.N[i]? = some x := by rfl) (hx : LocF Γ x := by first | exact Or.inl rfl | exact Or.inr ⟨rfl, rfl⟩) (hv : inVs vs i = true := by rfl) : DGx Γ vs (.Name x pos) (GName i) :=
  ⟨_, fun X h => pg_name (by rw [h.N]; exact hN) (by rw [h.N]; exact hi) (hx.loc h) (hx.fn h), sim_gname i hv⟩
def GsNil : TDGs := fun ds ρ P => match ds with | [] => P ρ | _ => False
def GsCons (G : TDG) (Gs : TDGs) : TDGs := fun ds ρ P => match ds with | d :: r => G d ρ (fun ρ1 => Gs r ρ1 P) | [] => False
def GTup (n : Nat) (Gs : TDGs) : TDG := fun d ρ P => match d with | .tup ds => ds.length = n ∧ Gs ds ρ P | _ => False
theorem dgs_nil {vs : Option (List Nat)} : DGsx Γ vs [] GsNil := ⟨_, fun _ _ => pgs_nil, fun M H0 ρ σ H d x P R Rp' r h k => by
  cases r with
  | nil => exact ⟨rfl, k _ _ h Rp' wipeOk.rfl' fun _ z => z⟩
  | cons _ _ => exact (show False from h).elim⟩
theorem dgs_cons {vs : Option (List Nat)} {G : TDG} {Gs : TDGs} (h1 : DGx Γ vs e G) (h2 : DGsx Γ vs es Gs) (hs : ∀ env : Env, (assignEach (e :: es) env).map (·.2) = assign e env :: (assignEach es env).map (·.2) := by intro _; rfl) : DGsx Γ vs (e :: es) (GsCons G Gs) := by
  obtain ⟨g, p, s⟩ := h1
  obtain ⟨g', p', s'⟩ := h2
  refine ⟨_, fun X h => pgs_cons (p X h) (p' X h) (hs _), fun M H0 ρ σ H d x P R Rp' r h k => ?_⟩
  cases r with
  | nil => exact False.elim h
  | cons r rr => exact ⟨_, _, rfl, s M H0 ρ σ H _ _ _ _ Rp' r h fun ρ2 σ2 h2 R2 w2 o2 => s' M H0 ρ2 σ2 H _ _ _ _ R2 (rr.tr (tr_own o2 Ex.refl)) h2 fun ρ3 σ3 h3 R3 w3 o3 => k _ _ h3 R3 (w2.trans w3) fun q z => o2 q (o3 q z)⟩
theorem dg_tup {vs : Option (List Nat)} {n k : Nat} {Gs : TDGs} (h : DGsx Γ vs es Gs) (hn : ∀ env : Env, (assignEach es env).length = n := by intro _; rfl) (hst : ∀ env : Env, (assignEach es env).findIdx? (·.1) = none := by intro _; rfl) (hcm : Γ.cm = true := by rfl) : DGx Γ vs (.Tuple es k pos) (GTup n Gs) := by
  obtain ⟨g, p, s⟩ := h
  refine ⟨gTup Γ.K n g, fun X h => by rw [← h.K]; exact pg_tup (h.calm hcm) (p X h) (hn _) (hst _), fun M H0 ρ σ H d x P R Rp' r h k => ?_⟩
  cases r with
  | tup q r => exact ⟨_, _, rfl, q.sq, by rw [← r.length]; exact h.1, s M H0 ρ σ H _ _ _ _ Rp' r h.2 k⟩
  | _ => exact (show False from h).elim
/-- target = value -/
def TAsgG (T : TD) (G : TDG) : TDS := fun D ρ X => T ρ (fun d ρ1 => G d ρ1 D.nx) X
theorem ds_asg {tg : Expr} {G : TDG} (he : DEx Γ e T) (hg : DGx Γ none tg G) (hs : ∀ env, swapsWithSole [tg] e pos.line env = pure false := by intro _; rfl) (hw : ∀ env, swappedStores [tg] e env = pure none := by intro _; rfl)
    (h1 : ∀ env, (assignEach [tg] env).map (·.2) = [assign tg env] := by intro _; rfl) : DS Γ (.Assign [tg] e pos) (TAsgG T G) := by
  obtain ⟨t, p, s⟩ := he
  obtain ⟨g, pg, sg⟩ := hg
  exact ⟨_, fun X h => ps_asg (p X h) (pg X h) (hs _) (hw _) (h1 _), fun M H0 ρ σ H D0 D' PX R L k q => s M H0 ρ σ H _ _ PX R L q fun d ρ1 v H1 q1 R1 e1 o1 r1 =>
    sg M H0 ρ1 σ H1 _ _ _ _ R1 r1 q1 fun ρ2 σ2 h2 R2 _ _ => k.nx _ _ _ R2 h2⟩
/-! ### for -/
def TFor (Ti : TDI) (G : TDG) (U : TDS) : TDS := fun De ρ X => Ti ρ (fun ds ρ1 => ∃ I : Nat → En → Prop, I 0 ρ1 ∧
  (∀ (i : Nat) (d : D) (ρ : En), ds[i]? = some d → I i ρ → G d ρ (fun ρ2 => U { De with nx := I (i + 1), ct := I (i + 1), bk := De.nx } ρ2 X)) ∧ ∀ ρ, I ds.length ρ → De.nx ρ) X
theorem sim_for {wi : TI} {g : TG} {t : TS} {Ti : TDI} {G : TDG} (hi : SimI K E wi Ti) (hg : SimG K none g G) (hb : SimS K E t U) : SimS K E (tFor wi g t) (TFor Ti G U) := fun M H0 ρ σ H D0 D' PX R L k q =>
  hi M H0 ρ σ H _ _ PX R L q fun ds ρ1 J H1 ⟨I, i0, step, done⟩ R1 e1 o1 y => by
    obtain ⟨R2, x2, b2⟩ := R1.base
    refine ⟨fun i m σ' H' => m = ds.length - i ∧ i ≤ ds.length ∧ ∃ ρ', Rep M (cutH ρ1 σ H1) ρ' σ' H' ∧ I i ρ', ⟨ds.length, rfl, Nat.zero_le _, ρ1, R2, i0⟩, ?_⟩
    rintro i m σ' H' ⟨rfl, hle, ρ', R', hI⟩
    obtain ⟨y1, y2, y3⟩ := y M.inv M.fresh H' (Nx M ρ' σ') R'.inv R'.ex (fun c z => R'.there z) (fun c z => z.elim .inl fun z => .inr (R'.own z).2.1) (fun c z => .inl z)
    by_cases hlt : i < ds.length
    · refine .inr ⟨y1 i hlt, fun σ2 H2 => ∃ ρ2, Rep M (cutH ρ1 σ H1) ρ2 σ2 H2 ∧ I (i + 1) ρ2, fun σ2 H2 ⟨ρ2, r2, i2⟩ => ⟨ds.length - (i + 1), by omega, rfl, hlt, ρ2, r2, i2⟩, fun x H2 yx => ?_⟩
      obtain ⟨d, hd, inv2, ex2, rx⟩ := y3 i x H2 hlt yx
      have R3 := R'.grow inv2 ex2
      refine hg M _ ρ' σ' H2 d x _ _ R3 rx (step i d ρ' hd hI) fun ρ4 σ4 u4 R4 _ o4 => ?_
      exact hb M _ ρ4 σ4 H2 _ { D' with nx := I (i + 1), ct := I (i + 1), bk := D'.nx } PX R4 (L.base x2) ⟨fun ρ5 σ5 H5 R5 z => ⟨ρ5, R5, z⟩, fun d v H e => k.rt d v H (x2 _ e), fun ρ5 σ5 H5 R5 z => k.nx _ _ _ (b2 _ _ _ R5) z, fun ρ5 σ5 H5 R5 z => ⟨ρ5, R5, z⟩⟩ u4
    · obtain rfl : i = ds.length := by omega
      exact .inl ⟨y2, k.nx _ _ _ (b2 _ _ _ R') (done ρ' hI)⟩
theorem ds_for {tg iter : Expr} {body : List Stmt} {Ti : TDI} {G : TDG} (hi : DIx Γ tg iter Ti) (hg : DGx Γ none tg G) (hb : DSs Γ body U) (hs : ∀ env x, foldedSetIterable iter env x = pure x := by intro _ _; rfl) (hcm : Γ.cm = true := by rfl) : DS Γ (.For tg iter body [] pos) (TFor Ti G U) := by
  obtain ⟨wi, pi, si⟩ := hi
  obtain ⟨g, pg, sg⟩ := hg
  obtain ⟨t, pt, st⟩ := hb
  exact ⟨_, fun X h => ps_for h.pass (h.calm hcm) (pi X h) (pg X h) (pt X h) (hs _), sim_for si sg st⟩
/-! ### sources of loops -/
def TItems (T : TD) (f : D → Option (List D)) : TDI := fun ρ Q X => T ρ (fun d ρ1 => match f d with | some ds => Q ds ρ1 | none => False) X
def lstOf : D → Option (List D) | .lst ds => some ds | _ => none
def tupOf : D → Option (List D) | .tup ds => some ds | _ => none
def strOf : D → Option (List D) | .str cs => some (cs.map fun c => .str [c]) | _ => none
theorem cut_not {N : Addr → Prop} {c : Addr} {o : HO} (h : Ex M (cutH ρ σ H) H') (hn : ¬ Nx M ρ σ c) (e : H c = some o) (wt : NoTb o) (hN : N c → M.dom c ∨ Nw (cutH ρ σ H) c) : ¬ N c ∧ H' c = some o := by
  have e2 : cutH ρ σ H c = some o := cutH_of (fun z => hn (.inr z)) e
  refine ⟨fun z => ?_, h c o (fun z => hn (.inl z)) e2 wt⟩
  rcases hN z with z | z
  · exact hn (.inl z)
  · exact z o e2 wt
theorem cut_tr {N : Addr → Prop} (h : Ex M (cutH ρ σ H) H') (hN : ∀ c, N c → M.dom c ∨ Nw (cutH ρ σ H) c) : Tr (Nx M ρ σ) H N H' := fun c o n e wt => cut_not h n e wt (hN c)
theorem SqL.uniq {a : Addr} {xs ys : List V} (h : H a = some (.lst xs)) (h' : SqL K H a ys) (hk : K.lookup a = none) : ys = xs := by
  rcases h' with (h' | ⟨o, h'⟩) | ⟨o, its, n, z, _⟩
  · rw [h] at h'; cases h'; rfl
  · rw [h] at h'; cases h'
  · rw [hk] at z; cases z
theorem di_list {tg : Expr} (h : DEx Γ e T) : DIx Γ tg e (TItems T lstOf) := by
  obtain ⟨t, p, s⟩ := h
  refine ⟨iList Γ.K t, fun X h => by rw [← h.K]; exact pi_list (p X h), fun M H0 ρ σ H R Q' PX Rp' L q k => s M H0 ρ σ H _ _ PX Rp' L q fun d ρ1 v H1 q1 R1 e1 o1 r1 => ?_⟩
  cases r1 with
  | lst q r =>
    rename_i a ds xs
    refine ⟨a, rfl, ⟨xs, q.sq⟩, k ds ρ1 _ H1 q1 R1 e1 o1 fun M2 hM2 H2 N i2 e2 n1 n2 n3 => ?_⟩
    obtain ⟨na, ea⟩ := cut_not e2 q.1 q.2 trivial (n2 a)
    have r2 := r.tr (cut_tr e2 n2)
    have sq : SqL Γ.K H2 a xs := SqL.of ea
    refine ⟨fun i hi => ?_, ⟨xs, sq, by rw [r.length]; exact Nat.le_refl _⟩, fun i x H3 hi ⟨e3, y⟩ => ?_⟩
    · obtain ⟨v, hv, _⟩ := r.getD (List.getElem?_eq_getElem hi)
      exact ⟨xs, v, sq, hv⟩
    · subst e3
      obtain ⟨d, hd, rd⟩ := r2.get (y xs sq)
      exact ⟨d, hd, i2, Ex.refl, rd⟩
  | _ => exact (show False from q1).elim
theorem di_tup {tg : Expr} (h : DEx Γ e T) : DIx Γ tg e (TItems T tupOf) := by
  obtain ⟨t, p, s⟩ := h
  refine ⟨iTup Γ.K t, fun X h => by rw [← h.K]; exact pi_tup (p X h), fun M H0 ρ σ H R Q' PX Rp' L q k => s M H0 ρ σ H _ _ PX Rp' L q fun d ρ1 v H1 q1 R1 e1 o1 r1 => ?_⟩
  cases r1 with
  | tup q r =>
    rename_i a ds xs
    refine ⟨a, rfl, ⟨xs, q.sq⟩, k ds ρ1 _ H1 q1 R1 e1 o1 fun M2 hM2 H2 N i2 e2 n1 n2 n3 => ?_⟩
    have r2 := r.tr (cut_tr e2 n2)
    have sq : SqT Γ.K H2 a xs := (q.tr (cut_tr e2 n2)).sq
    refine ⟨fun i hi => ?_, ⟨xs, sq, by rw [r.length]; exact Nat.le_refl _⟩, fun i x H3 hi ⟨e3, y⟩ => ?_⟩
    · obtain ⟨v, hv, _⟩ := r.getD (List.getElem?_eq_getElem hi)
      exact ⟨xs, v, sq, hv⟩
    · subst e3
      obtain ⟨d, hd, rd⟩ := r2.get (y xs sq)
      exact ⟨d, hd, i2, Ex.refl, rd⟩
  | _ => exact (show False from q1).elim
theorem di_str {tg : Expr} (h : DEx Γ e T) : DIx Γ tg e (TItems T strOf) := by
  obtain ⟨t, p, s⟩ := h
  refine ⟨iStr t, fun X h => pi_str (p X h), fun M H0 ρ σ H R Q' PX Rp' L q k => s M H0 ρ σ H _ _ PX Rp' L q fun d ρ1 v H1 q1 R1 e1 o1 r1 => ?_⟩
  cases r1 with
  | str cs =>
    refine ⟨S cs, rfl, k _ ρ1 _ H1 q1 R1 e1 o1 fun M2 hM2 H2 N i2 e2 n1 n2 n3 => ⟨fun i hi => ?_, ?_, fun i x H3 hi ⟨e3, c, hc, y⟩ => ?_⟩⟩
    · show i < cs.toArray.size
      simpa using hi
    · show cs.toArray.size ≤ _
      simp
    · subst e3 y
      have hc' : cs[i]? = some c := by simpa using hc
      exact ⟨.str [c], by rw [List.getElem?_map, hc']; rfl, i2, Ex.refl, .str [c]⟩
  | _ => exact (show False from q1).elim
def intsD (lo : Int) (n : Nat) : List D := (List.range n).map fun (i : Nat) => D.int (lo + (i : Int))
def TRng1 (A : TDA) : TDI := fun ρ Q X => A ρ (fun ds ρ1 => match ds with | [.int j] => j ≤ 100000 ∧ -100000 ≤ j ∧ Q (intsD 0 j.toNat) ρ1 | _ => False) X
def TRng2 (A : TDA) : TDI := fun ρ Q X => A ρ (fun ds ρ1 => match ds with | [.int i, .int j] => (-100000 ≤ i ∧ i ≤ 100000 ∧ j ≤ 100000 ∧ -100000 ≤ j) ∧ Q (intsD i (j - i).toNat) ρ1 | _ => False) X
theorem yl_range {lo : Int} {n : Nat} {Hc : Hp} : Yl M Hc (Itr lo n) (intsD lo n) := fun M2 hM2 H2 N i2 e2 n1 n2 n3 => by
  have hl : (intsD lo n).length = n := by simp [intsD]
  refine ⟨fun i hi => ?_, ?_, fun i x H3 hi ⟨e3, y⟩ => ?_⟩
  · show i < n
    omega
  · show n ≤ _
    omega
  · subst e3 y
    exact ⟨.int (lo + i), by rw [intsD, List.getElem?_map, List.getElem?_range (by omega)]; rfl, i2, Ex.refl, .int _⟩
theorem di_range1 {tg : Expr} {p : Pos} (ha : DAx Γ [a] TA) (hg : GlB Γ "range") (hm : Γ.mg "range" = none) (hs : ∀ env : Env, starEach [a] env = [(false, eval a env)] := by intro _; rfl) :
    DIx Γ tg (.Call (.Name "range" p) [a] [] pos) (TRng1 TA) := by
  obtain ⟨t, pa, s⟩ := ha
  refine ⟨iRng1 t, fun X h => pi_range1 (h.gl hg) (by rw [h.mg]; exact hm) (pa X h) (hs _), fun M H0 ρ σ H R Q' PX Rp' L q k => s M H0 ρ σ H _ _ PX Rp' L q fun ds ρ1 vs H1 q1 R1 e1 o1 r1 => ?_⟩
  split at q1
  · cases r1 with
    | cons r rr =>
      cases r
      cases rr
      exact ⟨_, rfl, by omega, by omega, k _ ρ1 _ H1 q1.2.2 R1 e1 o1 yl_range⟩
  · exact q1.elim
theorem di_range2 {tg : Expr} {p : Pos} (ha : DAx Γ [a, b] TA) (hg : GlB Γ "range") (hm : Γ.mg "range" = none) (hs : ∀ env : Env, starEach [a, b] env = [(false, eval a env), (false, eval b env)] := by intro _; rfl) (hs2 : ∀ env : Env, starEach [b] env = [(false, eval b env)] := by intro _; rfl) :
    DIx Γ tg (.Call (.Name "range" p) [a, b] [] pos) (TRng2 TA) := by
  obtain ⟨t, pa, s⟩ := ha
  refine ⟨iRng2 t, fun X h => pi_range2 (h.gl hg) (by rw [h.mg]; exact hm) (pa X h) (hs _) (hs2 _), fun M H0 ρ σ H R Q' PX Rp' L q k => s M H0 ρ σ H _ _ PX Rp' L q fun ds ρ1 vs H1 q1 R1 e1 o1 r1 => ?_⟩
  split at q1
  · cases r1 with
    | cons r rr =>
      cases r
      cases rr with
      | cons r rr =>
        cases r
        cases rr
        obtain ⟨⟨h1, h2, h3, h4⟩, q1⟩ := q1
        exact ⟨_, _, rfl, ⟨by omega, by omega, by omega, by omega⟩, k _ ρ1 _ H1 q1 R1 e1 o1 yl_range⟩
  · exact q1.elim
end
end DL
end

section
set_option Elab.async false
set_option linter.all false
set_option maxRecDepth 100000
set_option maxHeartbeats 5000000
namespace DL
open PySem L2
section
variable {Γ : Ga} {X : Cx} {K : PySem.W.Frag} {M : Mt K} {H0' : Hp} {PX : XP} {a b c e : Expr} {es : List Expr} {Ta Tb Tc T : TD} {TA : TDA} {TU TU' : TDT} {U U' : TDS} {pos : Pos} {E : XR} {H0 H H' : Hp} {ρ ρ' : En} {σ σ' : L2.St} {st : Stmt} {sts : List Stmt}
/-! ### comprehensions -/
/-- where a comprehension's block stands -/
def Ga.inner (Γ : Ga) (scope : Scope) : Ga := { Γ with E := ⟨E0, Γ.E.row, Γ.E.T, Γ.E.hot⟩, sc := relS scope Γ.sc, fnL := fun x => scope.names.lookup x == some .cell, ex := fun _ => True }
theorem OkX.inner (h : OkX Γ X) (scope : Scope) (s : Shared) (H : Hp) (C : Addr) (cl : List (Str × Addr)) (fp : List Addr) : OkX (Γ.inner scope) (X.blk s H scope (compEnvC scope cl C X.env) fp) where
  prog := h.prog
  w := h.w
  K := h.K
  mg := h.mg
  base := h.base
  N := h.N
  sc := by
    show (compEnvC scope cl C X.env).scope = relS scope Γ.sc
    rw [← h.sc]
    rfl
  roomW := h.roomW
  hnone := h.hnone
  calm := h.calm
  extra := trivial
  pass := PassesOwn.never
  takes := fun u s' x => by
    have ⟨_, _, _, _, _, _, _, _, _, _, _, _, _, _, _, _, z⟩ := x; exact False.elim z
  fn := fun x hx => hx
def XF : XP := fun _ => False
theorem HotL.of {M' : Mt K} {o : Option Hot} (h : HotL M o) (h3 : ∀ H, M'.inv H → M.inv H) : HotL M' o := by
  cases o with
  | none => trivial
  | some x => exact fun dx e H i => h dx e H (h3 H i)
theorem LinkX.no {M' : Mt K} (L : LinkX M H0 E PX) (h : M'.row = M.row) (h2 : M'.tabs = M.tabs := by rfl) (h3 : ∀ H, M'.inv H → M.inv H := by exact fun _ h => h.1) : LinkX M' H0' ⟨E0, E.row, E.T, E.hot⟩ XF := ⟨⟨h.trans L.1.1, h2.trans L.1.2.1, L.1.2.2.of h3⟩, fun _ _ _ _ h => h.elim⟩
theorem wipeD_at {i : Nat} : ∀ {vs : List Nat}, i ∉ vs → (wipeD ρ vs)[i]? = ρ[i]?
  | [], _ => rfl
  | v :: vs, h => by
    unfold wipeD
    rw [List.getElem?_set_ne (fun e => h (by simp [e]))]
    exact wipeD_at fun z => h (by simp [z])
theorem wipe_idem {vs : List Nat} : ∀ {ws : List Nat}, (∀ i ∈ ws, i ∈ vs) → wipe (wipe σ ws) vs = wipe σ vs
  | [], _ => rfl
  | w :: ws, h => by
    show wipe ((wipe σ ws).set w none) vs = wipe σ vs
    rw [wipe_set (h w (by simp)), wipe_idem fun i hi => h i (by simp [hi])]
def noOw (vs : List Nat) (ρ : En) : Bool := vs.all fun i => match ρ[i]? with | some (some (.ow _)) => false | _ => true
/-- [elt for tg in iter if ..], a new list: what each turn gives, one behind the other -/
def TLc (Ti : TDI) (G : TDG) (TU : TDT) (T : TD) (vs : List Nat) : TDL := fun ρ Q X => Ti ρ (fun ds ρ1 => noOw vs ρ1 = true ∧ ∃ I : Nat → List D → Prop, I 0 [] ∧
  (∀ (i : Nat) (d : D) (acc : List D), ds[i]? = some d → I i acc → G d (wipeD ρ1 vs) (fun ρ2 => TU ρ2 (fun b ρ3 => ρ3 = ρ2 ∧ if b = true then T ρ2 (fun y ρ4 => ρ4 = ρ2 ∧ acc.length ≤ 100000 ∧ I (i + 1) (acc ++ [y])) XF else I (i + 1) acc) XF)) ∧
  ∀ acc, I ds.length acc → Q acc ρ1) X
theorem sim_lc {wi : TI} {g : TG} {tt : L2.TT} {te : TE} {Ti : TDI} {G : TDG} {vs : List Nat} (hi : SimI K E wi Ti) (hg : SimG K (some vs) g G) (ht : SimT K ⟨E0, E.row, E.T, E.hot⟩ tt TU) (he : Sim K ⟨E0, E.row, E.T, E.hot⟩ te T) : SimL K E (tLc wi g tt te vs) (TLc Ti G TU T vs) :=
  fun M H0 ρ σ H Q Q' PX R L q k => hi M H0 ρ σ H _ _ PX R L q fun ds ρ1 J H1 ⟨now, I, i0, step, done⟩ R1 e1 o1 y Dl hD => by
    have nd : ¬ M.dom Dl := fun z => M.nfree _ _ R1.inv z hD
    have nN : ¬ Nx M ρ1 σ Dl := R1.new hD
    have noown : ∀ c, Own (wipeD ρ1 vs) (wipe σ vs) c → Own ρ1 σ c := fun c ⟨j, es, h1, h2⟩ => ⟨j, es, (wipeD_some h1).1, (wipe_some h2).1⟩
    have at' : ∀ j, j ∉ vs → (wipeD ρ1 vs)[j]? = ρ1[j]? := fun j hj => wipeD_at hj
    have own' : ∀ c, Own ρ1 σ c → Own (wipeD ρ1 vs) (wipe σ vs) c := fun c ⟨j, es, h1, h2⟩ => by
      have nj : j ∉ vs := fun z => by
        have := List.all_eq_true.mp now j z
        rw [h1] at this
        cases this
      exact ⟨j, es, by rw [at' j nj]; exact h1, by rw [wipe_at nj]; exact h2⟩
    refine ⟨fun i m H2 => m = ds.length - i ∧ i ≤ ds.length ∧ ∃ acc xs, I i acc ∧ M.inv H2 ∧ Ex M H1 H2 ∧ H2 Dl = some (.lst xs) ∧ Rps (fun c => Nx M ρ1 σ c ∨ c = Dl) K H2 acc xs,
      ⟨ds.length, rfl, Nat.zero_le _, [], [], i0, M.fresh _ _ _ R1.inv hD, Ex.new hD, upd_same, .nil⟩, ?_⟩
    rintro i m H2 ⟨rfl, hle, acc, xs, hI, inv2, ex2, l2, r2⟩
    -- the mutable part with the new list
    have toM : ∀ H3, M.inv H3 → Ex M H2 H3 → (M.plus Dl xs nd).inv H3 := fun H3 i3 e3 => ⟨i3, e3 Dl _ nd l2 trivial⟩
    have Nsub : ∀ c, Nx (M.plus Dl xs nd) (wipeD ρ1 vs) (wipe σ vs) c → Nx M ρ1 σ c ∨ c = Dl := fun c z => z.elim (fun z => z.elim (fun z => .inl (.inl z)) .inr) fun z => .inl (.inr (noown c z))
    have Nsup : ∀ c, (Nx M ρ1 σ c ∨ c = Dl) → Nx (M.plus Dl xs nd) (wipeD ρ1 vs) (wipe σ vs) c := fun c z => z.elim (fun z => z.elim (fun z => .inl (.inl z)) fun z => .inr (own' c z)) fun z => .inl (.inr z)
    have tr1 : ∀ H3, Ex M H2 H3 → Tr (Nx M ρ1 σ) H1 (Nx (M.plus Dl xs nd) (wipeD ρ1 vs) (wipe σ vs)) H3 := fun H3 e3 c o n z wt =>
      ⟨fun w => (Nsub c w).elim n fun w => by (rw [w, hD] at z; cases z), e3 c o (fun w => n (.inl w)) (ex2 c o (fun w => n (.inl w)) z wt) wt⟩
    have Rw : ∀ H3, M.inv H3 → Ex M H2 H3 → Rep (M.plus Dl xs nd) (cutH ρ1 σ H1) (wipeD ρ1 vs) (wipe σ vs) H3 := fun H3 i3 e3 => by
      refine ⟨toM H3 i3 e3, fun c o n z wt => ?_, by rw [wipeD_len, wipe_length]; exact R1.len, fun j d hj => ?_, fun j es hj => ?_, fun j k es fs p h1 h2 h3 h4 => R1.dj j k es fs p (wipeD_some h1).1 (wipeD_some h2).1 (wipe_some h3).1 (wipe_some h4).1⟩
      · exact e3 c o (fun w => n (.inl w)) (ex2 c o (fun w => n (.inl w)) (cutH_some z).2 wt) wt
      · obtain ⟨h1, nj⟩ := wipeD_some hj
        obtain ⟨v, a1, a2⟩ := R1.sh j d h1
        exact ⟨v, by rw [wipe_at nj]; exact a1, a2.tr (tr1 H3 e3)⟩
      · obtain ⟨h1, nj⟩ := wipeD_some hj
        obtain ⟨p, ys, a1, a2, a3, a4, a5⟩ := R1.ow j es h1
        refine ⟨p, ys, by rw [wipe_at nj]; exact a1, fun w => w.elim a2 fun w => by (rw [w, hD] at a4; cases a4), Nw.of (cutH_own ⟨j, es, h1, a1⟩), e3 p _ a2 (ex2 p _ a2 a4 trivial) trivial, a5.tr (tr1 H3 e3)⟩
    obtain ⟨y1, y2, y3⟩ := y M.inv M.fresh H2 (Nx (M.plus Dl xs nd) (wipeD ρ1 vs) (wipe σ vs)) inv2 (fun c o n z wt => ex2 c o n (cutH_some z).2 wt) (fun c z => (Rw H2 inv2 Ex.refl).there z)
      (fun c z => (Nsub c z).elim (fun z => z.elim .inl fun z => .inr (.of (cutH_own z))) fun z => .inr (by rw [z]; exact .of (cutH_none hD))) (fun c z => .inl (.inl z))
    by_cases hlt : i < ds.length
    · refine .inr ⟨y1 i hlt, fun H3 => ∃ acc xs, I (i + 1) acc ∧ M.inv H3 ∧ Ex M H1 H3 ∧ H3 Dl = some (.lst xs) ∧ Rps (fun c => Nx M ρ1 σ c ∨ c = Dl) K H3 acc xs,
        fun H3 ⟨acc, xs, h1, h2, h3, h4, h5⟩ => ⟨ds.length - (i + 1), by omega, rfl, hlt, acc, xs, h1, h2, h3, h4, h5⟩, fun x H3 yx => ?_⟩
      obtain ⟨d, hd, inv3, ex3, rx⟩ := y3 i x H2 |> fun _ => y3 i x H3 hlt yx
      refine hg (M.plus Dl xs nd) _ _ _ H3 d x _ _ (Rw H3 inv3 ex3) rx (step i d acc hd hI) fun ρ4 σ4 u4 R4 w4 o4 => ⟨?_, ?_⟩
      · have z : wipe σ4 vs = wipe (wipe σ vs) vs := w4.1
        rw [z, wipe_idem fun _ z => z]
      · refine ht (M.plus Dl xs nd) _ ρ4 σ4 H3 _ _ XF R4 (L.no rfl) u4 fun b ρ5 H5 ⟨e5, u5⟩ R5 ex5 o5 => ?_
        subst e5
        have keep : ∀ H6, (M.plus Dl xs nd).inv H6 → Ex (M.plus Dl xs nd) H3 H6 → M.inv H6 ∧ H6 Dl = some (.lst xs) ∧ Ex M H2 H6 := fun H6 i6 e6 => ⟨i6.1, i6.2, fun c o n z wt => by
          by_cases hc : c = Dl
          · subst hc
            rw [l2] at z
            rw [i6.2]
            exact z
          · exact e6 c o (fun w => w.elim n hc) (ex3 c o n z wt) wt⟩
        cases b with
        | true =>
          rw [if_pos rfl] at u5 ⊢
          refine he (M.plus Dl xs nd) _ ρ5 σ4 H5 _ _ XF R5 (L.no rfl) u5 fun v ρ6 w H6 ⟨e6, le6, I6⟩ R6 ex6 o6 r6 => ?_
          subst e6
          obtain ⟨k1, k2, k3⟩ := keep H6 R6.inv (ex5.trans ex6)
          have hl := r2.length
          refine ⟨xs, k2, by rw [← hl]; exact szlt le6, acc ++ [v], xs ++ [w], I6, M.other _ _ _ _ k1 nd k2 trivial, fun c o n z wt => ?_, upd_same, ?_⟩
          · have nc : c ≠ Dl := fun w => by (rw [w, hD] at z; cases z)
            rw [upd_ne nc]
            exact k3 c o n (ex2 c o n z wt) wt
          · have t1 : Tr (fun c => Nx M ρ1 σ c ∨ c = Dl) H2 (fun c => Nx M ρ1 σ c ∨ c = Dl) (upd H6 Dl (.lst (xs ++ [w]))) := fun c o n z wt => ⟨n, by rw [upd_ne (fun w => n (.inr w))]; exact k3 c o (fun w => n (.inl (.inl w))) z wt⟩
            have t2 : Tr (Nx (M.plus Dl xs nd) ρ6 σ4) H6 (fun c => Nx M ρ1 σ c ∨ c = Dl) (upd H6 Dl (.lst (xs ++ [w]))) := fun c o n z wt => by
              have nn : ¬ (Nx M ρ1 σ c ∨ c = Dl) := fun w => by
                rcases w with (w | w) | w
                · exact n (.inl (.inl w))
                · obtain ⟨j, es, h1, h2⟩ := w
                  have nj : j ∉ vs := fun z => by
                    have := List.all_eq_true.mp now j z
                    rw [h1] at this
                    cases this
                  refine n (.inr ⟨j, es, ?_, ?_⟩)
                  · have z : wipeD ρ6 vs = wipeD (wipeD ρ1 vs) vs := w4.2
                    rw [← wipeD_at (vs := vs) nj, z, wipeD_at nj, wipeD_at nj]
                    exact h1
                  · have z : wipe σ4 vs = wipe (wipe σ vs) vs := w4.1
                    rw [← wipe_at (vs := vs) nj, z, wipe_at nj, wipe_at nj]
                    exact h2
                · exact n (.inl (.inr w))
              exact ⟨nn, by rw [upd_ne (fun w => nn (.inr w))]; exact z⟩
            exact (r2.tr t1).app (Rps.one (r6.tr t2))
        | false =>
          rw [if_neg Bool.false_ne_true] at u5 ⊢
          obtain ⟨k1, k2, k3⟩ := keep H5 R5.inv ex5
          exact ⟨acc, xs, u5, k1, ex2.trans k3, k2, r2.tr fun c o n z wt => ⟨n, k3 c o (fun w => n (.inl (.inl w))) z wt⟩⟩
    · obtain rfl : i = ds.length := by omega
      exact .inl ⟨y2, k acc ρ1 Dl xs H2 (done acc hI) (R1.grow inv2 ex2) (e1.trans ex2) o1 (Nw.back e1 nd (.of hD)) l2 nN (r2.tr fun c o n z wt => ⟨fun w => n (.inl w), z⟩) r2 (R1.av (.of hD) ex2)⟩
def DTsx (Γ : Ga) (ifs : List Expr) (T : TDT) : Prop := ∃ t, (∀ X, OkX Γ X → PTs X ifs t) ∧ SimT Γ.K Γ.E t T
def TYes : TDT := fun ρ Q _ => Q true ρ
theorem dts_nil : DTsx Γ [] TYes := ⟨tYes, fun _ _ => pts_nil, fun M H0 ρ σ H Q Q' PX R L q k => k true ρ H q R Ex.refl fun _ z => z⟩
theorem dts_one (h : DTx Γ c TU) : DTsx Γ [c] TU := let ⟨t, p, s⟩ := h; ⟨t, fun X h => pts_one (p X h), s⟩
theorem dl_lc {elt tg iter : Expr} {ifs : List Expr} {scope : Scope} {Ti : TDI} {G : TDG} (own : List (Str × Nat)) (hN : Γ.N.Nodup) (ok : blkC Γ.N Γ.sc scope own = true) (hi : DIx Γ tg iter Ti) (hg : DGx (Γ.inner scope) (some (own.map (·.2))) tg G)
    (ht : DTsx (Γ.inner scope) ifs TU) (he : DEx (Γ.inner scope) elt T) (hs : ∀ env x, foldedSetIterable iter env x = pure x := by intro _ _; rfl) (hcm : Γ.cm = true := by rfl) :
    DLx Γ (.ListComp elt [⟨tg, iter, ifs, 0⟩] scope pos) (TLc Ti G TU T (own.map (·.2))) := by
  obtain ⟨wi, pi, si⟩ := hi
  obtain ⟨g, pg, sg⟩ := hg
  obtain ⟨tt, pt, st⟩ := ht
  obtain ⟨te, pe, se⟩ := he
  exact ⟨_, fun X h => pe_lc (h.calm hcm) (by rw [h.N]; exact hN) (pi X h) (by rw [h.N, h.sc]; exact blkOk_by ok) (fun s H C cl fp => pg _ (h.inner scope s H C cl fp)) (fun s H C cl fp => pt _ (h.inner scope s H C cl fp)) (fun s H C cl fp => pe _ (h.inner scope s H C cl fp)) (hs _), sim_lc si sg st se⟩
/-- n = [.. for ..] -/
theorem tm_lc {i : Nat} {y : Str} {py spos : Pos} {elt tg iter : Expr} {ifs : List Expr} {scope : Scope} {Ti : TDI} {G : TDG} (own : List (Str × Nat)) (hN : Γ.N.Nodup) (ok : blkC Γ.N Γ.sc scope own = true) (hi : DIx Γ tg iter Ti) (hg : DGx (Γ.inner scope) (some (own.map (·.2))) tg G)
    (ht : DTsx (Γ.inner scope) ifs TU) (he : DEx (Γ.inner scope) elt T) (hy : Γ.N[i]? = some y) (hyl : Γ.sc.names.lookup y = some .local) (hk : Γ.sc.kind = .function) (hl : (py.line == pos.line) = true)
    (hw : (scope.names.any fun (n, k) => n == y && (k == .local || k == .cell)) = false) (hs : ∀ env x, foldedSetIterable iter env x = pure x) (hcm : Γ.cm = true) :
    ∃ t, (∀ X, OkX Γ X → PS X (.Assign [.Name y py] (.ListComp elt [⟨tg, iter, ifs, 0⟩] scope pos) spos) (tAsg t (gName i))) ∧ SimL Γ.K Γ.E t (TLc Ti G TU T (own.map (·.2))) := by
  obtain ⟨wi, pi, si⟩ := hi
  obtain ⟨g, pg, sg⟩ := hg
  obtain ⟨tt, pt, st⟩ := ht
  obtain ⟨te, pe, se⟩ := he
  exact ⟨_, fun X h => ps_setLc (h.calm hcm) (by rw [h.N]; exact hN) (by rw [h.N]; exact hy) (by rw [h.sc]; exact hyl) (sw_true (by rw [h.sc]; exact hk) (by rw [h.sc]; exact hyl) hl hw) (pi X h) (by rw [h.N, h.sc]; exact blkOk_by ok) (fun s H C cl fp => pg _ (h.inner scope s H C cl fp)) (fun s H C cl fp => pt _ (h.inner scope s H C cl fp)) (fun s H C cl fp => pe _ (h.inner scope s H C cl fp)) (hs _), sim_lc si sg st se⟩
theorem ds_setLcL (i : Nat) {y : Str} {py spos : Pos} {elt tg iter : Expr} {ifs : List Expr} {scope : Scope} {Ti : TDI} {G : TDG} (own : List (Str × Nat)) (hN : Γ.N.Nodup) (ok : blkC Γ.N Γ.sc scope own = true) (hi : DIx Γ tg iter Ti) (hg : DGx (Γ.inner scope) (some (own.map (·.2))) tg G)
    (ht : DTsx (Γ.inner scope) ifs TU) (he : DEx (Γ.inner scope) elt T) (hy : Γ.N[i]? = some y := by rfl) (hyl : Γ.sc.names.lookup y = some .local := by rfl) (hk : Γ.sc.kind = .function := by rfl) (hl : (py.line == pos.line) = true := by rfl)
    (hw : (scope.names.any fun (n, k) => n == y && (k == .local || k == .cell)) = false := by decide +kernel) (hs : ∀ env x, foldedSetIterable iter env x = pure x := by intro _ _; rfl) (hcm : Γ.cm = true := by rfl) :
    DS Γ (.Assign [.Name y py] (.ListComp elt [⟨tg, iter, ifs, 0⟩] scope pos) spos) (TSetL i (TLc Ti G TU T (own.map (·.2)))) := by
  obtain ⟨t, p, s⟩ := tm_lc own hN ok hi hg ht he hy hyl hk hl hw hs hcm
  exact ⟨_, p, sim_setL s⟩
theorem ds_setLc (i : Nat) {y : Str} {py spos : Pos} {elt tg iter : Expr} {ifs : List Expr} {scope : Scope} {Ti : TDI} {G : TDG} (own : List (Str × Nat)) (hN : Γ.N.Nodup) (ok : blkC Γ.N Γ.sc scope own = true) (hi : DIx Γ tg iter Ti) (hg : DGx (Γ.inner scope) (some (own.map (·.2))) tg G)
    (ht : DTsx (Γ.inner scope) ifs TU) (he : DEx (Γ.inner scope) elt T) (hy : Γ.N[i]? = some y := by rfl) (hyl : Γ.sc.names.lookup y = some .local := by rfl) (hk : Γ.sc.kind = .function := by rfl) (hl : (py.line == pos.line) = true := by rfl)
    (hw : (scope.names.any fun (n, k) => n == y && (k == .local || k == .cell)) = false := by decide +kernel) (hs : ∀ env x, foldedSetIterable iter env x = pure x := by intro _ _; rfl) (hcm : Γ.cm = true := by rfl) :
    DS Γ (.Assign [.Name y py] (.ListComp elt [⟨tg, iter, ifs, 0⟩] scope pos) spos) (TSet i (TOfL (TLc Ti G TU T (own.map (·.2))))) := by
  obtain ⟨t, p, s⟩ := tm_lc own hN ok hi hg ht he hy hyl hk hl hw hs hcm
  exact ⟨_, p, sim_set (sim_ofL s)⟩
/-- .. the name a cell -/
theorem sw_cell {elt : Expr} {gs : List Comprehension} {scope : Scope} {py : Pos} {y : Str} {l : Nat} {env : Env} (hy : env.scope.names.lookup y = some .cell) : swapsWith (.ListComp elt gs scope pos) (some (.Name y py)) l env = pure false := by
  have ky : env.kindOf y = some .cell := hy
  unfold swapsWith
  simp only [ky]
  cases (env.blockKind == ScopeKind.function) <;> rfl
theorem ds_setLcC (i : Nat) {y : Str} {py spos : Pos} {elt : Expr} {gs : List Comprehension} {scope : Scope} (he : DEx Γ (.ListComp elt gs scope pos) T) (hN : Γ.N.Nodup) (hy : Γ.N[i]? = some y := by rfl) (hyl : Γ.sc.names.lookup y = some .cell := by rfl) (hf : Γ.fnL y = true := by rfl) :
    DS Γ (.Assign [.Name y py] (.ListComp elt gs scope pos) spos) (TSet i T) := by
  obtain ⟨t, p, s⟩ := he
  exact ⟨_, fun X h => ps_set (by rw [h.N]; exact hN) (by rw [h.N]; exact hy) (by rw [h.sc]; exact .inr hyl) (p X h) (sw_cell (by rw [h.sc]; exact hyl)) (.inl (h.fn y hf)), sim_set s⟩
theorem ds_setLcCL (i : Nat) {y : Str} {py spos : Pos} {elt : Expr} {gs : List Comprehension} {scope : Scope} {T : TDL} (he : DLx Γ (.ListComp elt gs scope pos) T) (hN : Γ.N.Nodup) (hy : Γ.N[i]? = some y := by rfl) (hyl : Γ.sc.names.lookup y = some .cell := by rfl) (hf : Γ.fnL y = true := by rfl) :
    DS Γ (.Assign [.Name y py] (.ListComp elt gs scope pos) spos) (TSetL i T) := by
  obtain ⟨t, p, s⟩ := he
  exact ⟨_, fun X h => ps_set (by rw [h.N]; exact hN) (by rw [h.N]; exact hy) (by rw [h.sc]; exact .inr hyl) (p X h) (sw_cell (by rw [h.sc]; exact hyl)) (.inl (h.fn y hf)), sim_setL s⟩
end
end DL
end

section
set_option Elab.async false
set_option linter.all false
set_option maxRecDepth 100000
set_option maxHeartbeats 5000000
namespace DL
open PySem L2 PyProof.Rows
section
variable {Γ : Ga} {X : Cx} {K : PySem.W.Frag} {M : Mt K} {H0' : Hp} {PX : XP} {a b c e : Expr} {es : List Expr} {Ta Tb Tc T : TD} {TA : TDA} {TU TU' : TDT} {U U' : TDS} {pos : Pos} {E : XR} {H0 H H' : Hp} {ρ ρ' : En} {σ σ' : L2.St} {st : Stmt} {sts : List Stmt}
/-! ### what a def does to data -/
structure Spec where
  pre : Addr → List D → Prop
  post : Addr → List D → D → Prop
  exc : Addr → List D → Xc → Prop := fun _ _ _ => False
def spD (K : PySem.W.Frag) (n : Nat) (S : Spec) : Sp := fun vs H Q E => ∃ (M : Mt K) (ds : List D), M.inv H ∧ Rps M.dom K H ds vs ∧ ds.length = n ∧ S.pre M.row ds ∧
  (∀ d v H', S.post M.row ds d → M.inv H' → Ex M H H' → Rp M.dom K H' d v → Q v H') ∧
  (∀ x cls dd H', S.exc M.row ds x → M.inv H' → Ex M H H' → RpX M.dom K H' x cls dd → E cls dd H')
/-- what may change, with the def's own lists shut in -/
def Mt.over (M : Mt K) (O : Addr → Prop) (H1 : Hp) (hO : ∀ c, O c → ¬ M.dom c ∧ ∃ xs, H1 c = some (.lst xs)) : Mt K where
  dom := fun c => M.dom c ∨ O c
  inv := fun H => M.inv H ∧ ∀ c, O c → H c = H1 c
  row := M.row
  sdm := M.sdm
  sdom := fun a h => .inl (M.sdom a h)
  nsr := M.nsr
  rdom := .inl M.rdom
  rinv := fun H h => M.rinv H h.1
  rput := fun H ys h r => ⟨M.rput H ys h.1 r, fun c z => by rw [upd_ne (fun w => (hO c z).1 (by rw [w]; exact M.rdom))]; exact h.2 c z⟩
  fresh := fun H p o h hp => ⟨M.fresh H p o h.1 hp, fun c z => by
    obtain ⟨_, xs, e⟩ := hO c z
    rw [upd_ne (fun w => by (have := h.2 c z; rw [w, hp, ← w, e] at this; cases this))]
    exact h.2 c z⟩
  nfree := fun H p h hp => hp.elim (M.nfree H p h.1) fun z => by
    obtain ⟨_, xs, e⟩ := hO p z
    rw [h.2 p z, e]
    simp
  other := fun H p o u h hp hu mu => ⟨M.other H p o u h.1 (fun z => hp (.inl z)) hu mu, fun c z => by rw [upd_ne (fun w => hp (.inr (by rw [← w]; exact z)))]; exact h.2 c z⟩
  tabs := M.tabs
  tinv := fun H h => M.tinv H h.1
  tput := fun H H' h x t => ⟨M.tput H H' h.1 x t, fun c z => by
    obtain ⟨_, xs, e⟩ := hO c z
    rw [e]
    exact x _ _ (by rw [h.2 c z]; exact e) (by intro ps w; cases w)⟩
theorem Rep.over (R : Rep M H0 ρ σ H) : ∀ c, Own ρ σ c → ¬ M.dom c ∧ ∃ xs, H c = some (.lst xs) := fun c z => ⟨(R.own z).1, (R.own z).2.2⟩
theorem ex_over {O : Addr → Prop} {hO : ∀ c, O c → ¬ M.dom c ∧ ∃ xs, H c = some (.lst xs)} (h : (M.over O H hO).inv H') (e : Ex (M.over O H hO) H H') : Ex M H H' := fun c o n z wt => by
  by_cases hc : O c
  · rw [h.2 c hc]
    exact z
  · exact e c o (fun w => w.elim n hc) z wt
/-- a def that is known to keep its promise -/
structure DefOk (Γ : Ga) (k : Nat) (x : Str) (n : Nat) (S : Spec) : Prop where
  ex : ∃ (f : Addr) (fd : FuncData) (ps : List Str), FnOk Γ.P Γ.w Γ.K Γ.mg Γ.base (L2.CX Γ.P Γ.w) k f fd ps (spD Γ.K n S) ∧ Γ.mg x = some (.ref f) ∧ PySem.W.keepIn Γ.K (.ref f) = true ∧ Binds Γ.K fd ps []
def TCall (row : Addr) (S : Spec) (n : Nat) (A : TDA) : TD := fun ρ Q X => A ρ (fun ds ρ1 => ds.length = n ∧ S.pre row ds ∧ (∀ d, S.post row ds d → Q d ρ1) ∧ (∀ x, S.exc row ds x → X x)) X
theorem RpX.to {N N' : Addr → Prop} {x : Xc} {cls : Value} {d : Option Addr} (h : RpX N K H x cls d) (t : Tr N H N' H) : RpX N' K H x cls d := by
  obtain ⟨e, h⟩ := h
  refine ⟨e, h.elim .inl fun ⟨dx, vs, h0, h1, h2, h3, h4⟩ => .inr ⟨dx, vs, h0, h1, (t _ _ h2 h3 trivial).1, h3, h4.tr t⟩⟩
theorem sim_call {n : Nat} {S : Spec} {t : L2.TA} (h : SimA K E t TA) : Sim K E (tCall (spD K n S) [] E.E t) (TCall E.row S n TA) := fun M H0 ρ σ H Q Q' PX R L q k =>
  h M H0 ρ σ H _ _ PX R L q fun ds ρ1 vs H1 ⟨hn, hp, hq, hx⟩ R1 e1 o1 r1 => by
    rw [List.append_nil]
    refine ⟨M.over (Own ρ1 σ) H1 R1.over, ds, ⟨R1.inv, fun _ _ => rfl⟩, r1, hn, by rw [show (M.over (Own ρ1 σ) H1 R1.over).row = M.row from rfl, L.1.1]; exact hp, fun d v H2 hd i2 e2 r2 => ?_, fun x cls dd H2 hd i2 e2 r2 => ?_⟩
    · have ex := ex_over i2 e2
      exact k d ρ1 v H2 (hq d (by rw [← L.1.1]; exact hd)) (R1.grow i2.1 ex) (e1.trans ex) o1 r2
    · have ex := ex_over i2 e2
      exact L.2 x cls dd H2 (hx x (by rw [← L.1.1]; exact hd)) ((R1.ex).trans ex) i2.1 (r2.to fun c o n z wt => ⟨fun w => n (.inl w), z⟩)
theorem passes_of' (h : OkX Γ X) : Passes (L2.CX X.prog X.w) X Γ.E.E := passes_call h.takes fun _ _ _ _ z => z
theorem de_call {k n : Nat} {x : Str} {S : Spec} {p : Pos} (F : DefOk Γ k x n S) (hk : k ≤ Γ.k) (hg : GlB Γ x) (ha : DAx Γ (e :: es) TA) (hdb : (x == ("__debug__" : Str)) = false := by decide)
    (he : ∀ env : Env, starEach (e :: es) env = (false, eval e env) :: starEach es env := by intro _; rfl) (hpl : ∀ env : Env, (backTo pos (starEach es env)).any (·.1) = false := by intro _; rfl) (hcm : Γ.cm = true := by rfl) : DEx Γ (.Call (.Name x p) (e :: es) [] pos) (TCall Γ.E.row S n TA) := by
  obtain ⟨f, fd, ps, F, hm, kp, hb⟩ := F.ex
  obtain ⟨t, pa, sa⟩ := ha
  refine ⟨tCall (spD Γ.K n S) [] Γ.E.E t, fun X h => ?_, sim_call sa⟩
  have F' : FnOk X.prog X.w X.K X.mg X.base (L2.CX X.prog X.w) k f fd ps (spD Γ.K n S) := by
    rw [h.prog, h.w, h.K, h.mg, h.base]
    exact F
  exact pe_call F' ((h.room hcm).mono hk) (h.gl hg) (by rw [h.mg]; exact hm) (by rw [h.K]; exact kp) (by rw [h.K]; exact hb) .nil (passes_of' h) (pa X h) hdb (he _) (hpl _)
/-! ### a def, by its body -/
def env0 (n : Nat) (ds : List D) : En := ds.map (fun d => some (.sh d)) ++ List.replicate (n - ds.length) none
theorem rep_start {N : List Str} {ds : List D} {vs : List V} (hi : M.inv H) (r : Rps M.dom K H ds vs) : Rep M H (env0 N.length ds) (L2.start N vs) H := by
  have noown : ∀ q, ¬ Own (env0 N.length ds) (L2.start N vs) q := fun q ⟨i, es, h, _⟩ => by
    unfold env0 at h
    by_cases hl : i < (ds.map fun d => some (DV.sh d)).length
    · rw [List.getElem?_append_left hl, List.getElem?_map] at h
      cases e : ds[i]? with
      | none => rw [e] at h; cases h
      | some d => rw [e] at h; cases h
    · rw [List.getElem?_append_right (by omega), List.getElem?_replicate] at h
      split at h <;> cases h
  refine ⟨hi, Ex.refl, ?_, fun i d h => ?_, fun i es h => ?_, fun i j es fs q h => ?_⟩
  · unfold env0 L2.start
    simp [r.length]
  · unfold env0 at h
    by_cases hl : i < (ds.map fun d => some (DV.sh d)).length
    · rw [List.getElem?_append_left hl, List.getElem?_map] at h
      cases e : ds[i]? with
      | none => rw [e] at h; cases h
      | some d' =>
        rw [e] at h
        cases h
        obtain ⟨v, e1, r1⟩ := r.getD e
        refine ⟨v, ?_, r1.tr fun c o n z wt => ⟨fun w => w.elim n (noown c), z⟩⟩
        unfold L2.start
        rw [List.getElem?_append_left (by rw [List.length_map]; exact (List.getElem?_eq_some_iff.mp e1).1), List.getElem?_map, e1]
        rfl
    · rw [List.getElem?_append_right (by omega), List.getElem?_replicate] at h
      split at h <;> cases h
  · unfold env0 at h
    by_cases hl : i < (ds.map fun d => some (DV.sh d)).length
    · rw [List.getElem?_append_left hl, List.getElem?_map] at h
      cases e : ds[i]? with
      | none => rw [e] at h; cases h
      | some d' => rw [e] at h; cases h
    · rw [List.getElem?_append_right (by omega), List.getElem?_replicate] at h
      split at h <;> cases h
  · unfold env0 at h
    by_cases hl : i < (ds.map fun d => some (DV.sh d)).length
    · rw [List.getElem?_append_left hl, List.getElem?_map] at h
      cases e : ds[i]? with
      | none => rw [e] at h; cases h
      | some d' => rw [e] at h; cases h
    · rw [List.getElem?_append_right (by omega), List.getElem?_replicate] at h
      split at h <;> cases h
theorem spD_len {n : Nat} {S : Spec} {vs : List V} {Q : VK} {E : XK} (h : spD K n S vs H Q E) : vs.length = n := by
  obtain ⟨M, ds, _, r, hl, _⟩ := h
  rw [← r.length]
  exact hl
/-- the context of a def's body -/
abbrev gaOf (Γ : Ga) (k : Nat) (N : List Str) (st : Stmt) (E : XR) : Ga := { P := Γ.P, w := Γ.w, K := Γ.K, mg := Γ.mg, base := Γ.base, N := N, sc := defScope st, k := k, fnL := fun _ => true, E := E }
theorem okx_def {k : Nat} {N : List Str} {qual : Str} {f : Addr} {cdv : Value} {A : Around} {outer : List Env} {s : Shared} {row : Addr} {Tb : List (Addr × Str)} {Ex : XK} (hr : Room k (A.deeper (envOfC qual (defScope st) s.heap.objs.size f cdv))) :
    OkX (gaOf Γ k N st ⟨Ex, row, Tb, none⟩) (cxOf (L2.CX Γ.P Γ.w) Γ.P Γ.w Γ.K Γ.mg Γ.base N qual (defScope st) f cdv A outer s H Ex) where
  prog := rfl
  w := rfl
  K := rfl
  mg := rfl
  base := rfl
  N := rfl
  sc := rfl
  roomW := .of hr
  hnone := fun _ => hr.hd
  calm := fun _ => rfl
  extra := trivial
  pass := passes_of rfl
  takes := takes_of rfl rfl rfl rfl
  fn := fun _ _ => rfl
theorem fn_def {k n : Nat} {x qual : Str} {f : Addr} {fd : FuncData} {N ps : List Str} {S : Spec} (F : Fun Γ.K x qual st f fd) (sc : FnScope N ps (defScope st)) (hn : ps.length = n) {T : Addr → TDS} (hT : ∀ E : XR, DSs (gaOf Γ k N st E) (defBody st) (T E.row))
    (hS : ∀ row ds, ds.length = n → S.pre row ds → T row { nx := fun _ => S.post row ds .non, rt := S.post row ds, bk := fun _ => False, ct := fun _ => False } (env0 N.length ds) (S.exc row ds)) :
    FnOk Γ.P Γ.w Γ.K Γ.mg Γ.base (L2.CX Γ.P Γ.w) (k + 1) f fd ps (spD Γ.K n S) := by
  refine F.okX sc (fun vs H Q E h => by rw [spD_len h, hn]) (fun cdv A outer s H vs Q E hr h => ?_)
  obtain ⟨M, ds, hi, r, hl, hp, hq, hx⟩ := h
  obtain ⟨t, pt, sm⟩ := hT ⟨E, M.row, M.tabs, none⟩
  refine ⟨t, pt _ (okx_def hr), ?_⟩
  refine sm M H _ _ H _ { nx := fun _ => S.post M.row ds .non, rt := S.post M.row ds, bk := fun _ => False, ct := fun _ => False } (S.exc M.row ds) (rep_start (N := N) hi r) ⟨⟨rfl, rfl, trivial⟩, fun x cls d H' px e i rx => hx x cls d H' px i e rx⟩ ⟨fun ρ σ H1 R z => ?_, fun d v H1 e i rd z => hq d v H1 z i e rd, fun _ _ _ _ z => z.elim, fun _ _ _ _ z => z.elim⟩ (hS M.row ds hl hp)
  exact hq .non .non H1 z R.inv R.ex .non
theorem def_ok {k n : Nat} {x qual : Str} {f : Addr} {fd : FuncData} {N ps : List Str} {S : Spec} (F : Fun Γ.K x qual st f fd) (sc : FnScope N ps (defScope st)) (hn : ps.length = n) {T : Addr → TDS} (hT : ∀ E : XR, DSs (gaOf Γ k N st E) (defBody st) (T E.row))
    (hS : ∀ row ds, ds.length = n → S.pre row ds → T row { nx := fun _ => S.post row ds .non, rt := S.post row ds, bk := fun _ => False, ct := fun _ => False } (env0 N.length ds) (S.exc row ds))
    (hm : Γ.mg x = some (.ref f)) (hb : Binds Γ.K fd ps []) : DefOk Γ (k + 1) x n S := ⟨f, fd, ps, fn_def F sc hn hT hS, hm, F.kp, hb⟩
/-- the same def, from another place of the same text -/
theorem DefOk.at {Γ' : Ga} {k n : Nat} {x : Str} {S : Spec} (h : DefOk Γ k x n S) (h1 : Γ'.P = Γ.P := by rfl) (h2 : Γ'.w = Γ.w := by rfl) (h3 : Γ'.K = Γ.K := by rfl) (h4 : Γ'.mg = Γ.mg := by rfl) (h5 : Γ'.base = Γ.base := by rfl) : DefOk Γ' k x n S := by
  obtain ⟨f, fd, ps, h⟩ := h.ex
  exact ⟨f, fd, ps, by rw [h1, h2, h3, h4, h5]; exact h⟩

/-! ### built-ins -/
def SimC (K : PySem.W.Frag) (r : List V → Hp → VK → Prop) (g : List D → (D → Prop) → Prop) : Prop :=
  ∀ (M : Mt K) (N : Addr → Prop) (H : Hp) (vs : List V) (ds : List D) (Q : VK) (P : D → Prop), M.inv H → (∀ a, N a → H a ≠ none) → (∀ a, M.dom a → N a) → Rps N K H ds vs → g ds P →
    (∀ dz z H', P dz → M.inv H' → Ex M H H' → Rp N K H' dz z → Q z H') → r vs H Q
def TCB (g : List D → (D → Prop) → Prop) (A : TDA) : TD := fun ρ Q X => A ρ (fun ds ρ1 => g ds fun d => Q d ρ1) X
theorem sim_cb {r : List V → Hp → VK → Prop} {g : List D → (D → Prop) → Prop} {t : L2.TA} (hr : SimC K r g) (h : SimA K E t TA) : Sim K E (tCB r t) (TCB g TA) := fun M H0 ρ σ H Q Q' PX R L q k =>
  h M H0 ρ σ H _ _ PX R L q fun ds ρ1 vs H1 q1 R1 e1 o1 r1 => hr M (Nx M ρ1 σ) H1 vs ds _ _ R1.inv (fun a z => R1.there z) (fun a z => .inl z) r1 q1 fun dz z H2 p i2 e2 r2 => k dz ρ1 z H2 p (R1.grow i2 e2) (e1.trans e2) o1 r2
theorem de_callB {id : String} {x : Str} {p : Pos} {r : List V → Hp → VK → Prop} {g : List D → (D → Prop) → Prop} (hc : ∀ X : Cx, OkX Γ X → CallR X (.builtin id) r) (hr : SimC Γ.K r g) (ha : DAx Γ (e :: es) TA) (hg : GlB Γ x) (hm : Γ.mg x = none) (hv : bootBuiltins x = some (.builtin id))
    (hn : x ≠ "__name__" := by decide) (hdb : (x == ("__debug__" : Str)) = false := by decide) (he : ∀ env : Env, starEach (e :: es) env = (false, eval e env) :: starEach es env := by intro _; rfl) (hpl : ∀ env : Env, (backTo pos (starEach es env)).any (·.1) = false := by intro _; rfl) :
    DEx Γ (.Call (.Name x p) (e :: es) [] pos) (TCB g TA) := by
  obtain ⟨t, pa, sa⟩ := ha
  exact ⟨_, fun X h => pe_callB (hc X h) (h.gl hg) (by rw [h.mg]; exact hm) hv (pa X h) hn hdb (he _) (hpl _), sim_cb hr sa⟩
theorem de_callTy {id : String} {x : Str} {p : Pos} {r : List V → Hp → VK → Prop} {g : List D → (D → Prop) → Prop} (hc : ∀ X : Cx, OkX Γ X → CallR X (.type id) r) (hr : SimC Γ.K r g) (ha : DAx Γ (e :: es) TA) (hg : GlB Γ x) (hm : Γ.mg x = none) (hv : bootBuiltins x = some (.type id))
    (hn : x ≠ "__name__" := by decide) (hdb : (x == ("__debug__" : Str)) = false := by decide) (he : ∀ env : Env, starEach (e :: es) env = (false, eval e env) :: starEach es env := by intro _; rfl) (hpl : ∀ env : Env, (backTo pos (starEach es env)).any (·.1) = false := by intro _; rfl) :
    DEx Γ (.Call (.Name x p) (e :: es) [] pos) (TCB g TA) := by
  obtain ⟨t, pa, sa⟩ := ha
  exact ⟨_, fun X h => pe_callTy (hc X h) (h.gl hg) (by rw [h.mg]; exact hm) hv (pa X h) hn hdb (he _) (hpl _), sim_cb hr sa⟩
/-- len of a text, a list, a tuple -/
def gLen : List D → (D → Prop) → Prop := fun ds P => match ds with
  | [.str cs] => cs.length ≤ 100000 ∧ P (.int cs.length)
  | [.lst xs] => P (.int xs.length)
  | [.tup xs] => P (.int xs.length)
  | _ => False
theorem simc_len : SimC K (fun xs H Q => ∃ x n, xs = [x] ∧ LenV K x H n ∧ Q (.int n) H) gLen := fun M N H vs ds Q P hi _ _ r h k => by
  unfold gLen at h
  split at h
  · cases r with
    | cons r rr =>
      cases r
      cases rr
      exact ⟨_, _, rfl, ⟨by rw [S_len]; exact szl h.1, rfl⟩, by rw [S_len]; exact k _ _ H h.2 hi Ex.refl (.int _)⟩
  · cases r with
    | cons r rr =>
      cases r with
      | lst q s =>
        cases rr
        exact ⟨_, _, rfl, .inl ⟨_, q.sq, rfl⟩, by rw [← s.length]; exact k _ _ H h hi Ex.refl (.int _)⟩
  · cases r with
    | cons r rr =>
      cases r with
      | tup q s =>
        cases rr
        exact ⟨_, _, rfl, .inr ⟨_, q.sq, rfl⟩, by rw [← s.length]; exact k _ _ H h hi Ex.refl (.int _)⟩
  · exact h.elim
theorem de_len {p : Pos} (ha : DEx Γ a Ta) (hg : GlB Γ "len") (hm : Γ.mg "len" = none) (hs : ∀ env : Env, starEach [a] env = (false, eval a env) :: starEach [] env := by intro _; rfl) : DEx Γ (.Call (.Name "len" p) [a] [] pos) (TCB gLen (TCons Ta TNil)) :=
  de_callB (fun X h => by rw [← h.K]; exact call_len) simc_len (da_cons ha da_nil hs) hg hm (by decide +kernel) (by decide) (by decide) hs
/-- int of an int -/
def gInt : List D → (D → Prop) → Prop := fun ds P => match ds with
  | [.int i] => P (.int i)
  | _ => False
theorem simc_int : SimC K (fun xs H Q => ∃ i, xs = [.int i] ∧ Q (.int i) H) gInt := fun M N H vs ds Q P hi _ _ r h k => by
  unfold gInt at h
  split at h
  · cases r with
    | cons r rr =>
      cases r
      cases rr
      exact ⟨_, rfl, k _ _ H h hi Ex.refl (.int _)⟩
  · exact h.elim
/-- list(..), tuple(..) -/
def gList : List D → (D → Prop) → Prop := fun ds P => match ds with
  | [.lst xs] => P (.lst xs)
  | [.tup xs] => P (.lst xs)
  | _ => False
theorem simc_list : SimC K (fun xs H Q => ∃ p ys, xs = [.ref p] ∧ (SqL K H p ys ∨ SqT K H p ys) ∧ ∀ l, H l = none → Q (.ref l) (upd H l (.lst ys))) gList := fun M N H vs ds Q P hi hn hd r h k => by
  unfold gList at h
  split at h
  · cases r with
    | cons r rr =>
      cases r with
      | lst q s =>
        cases rr
        exact ⟨_, _, rfl, .inl q.sq, fun l hl => k _ _ _ h (M.fresh _ _ _ hi hl) (Ex.new hl) (.lst ⟨fun z => hn l z hl, upd_same⟩ (s.tr (tr_new hl)))⟩
  · cases r with
    | cons r rr =>
      cases r with
      | tup q s =>
        cases rr
        exact ⟨_, _, rfl, .inr q.sq, fun l hl => k _ _ _ h (M.fresh _ _ _ hi hl) (Ex.new hl) (.lst ⟨fun z => hn l z hl, upd_same⟩ (s.tr (tr_new hl)))⟩
  · exact h.elim
theorem de_list {p : Pos} (ha : DEx Γ a Ta) (hg : GlB Γ "list") (hm : Γ.mg "list" = none) (hs : ∀ env : Env, starEach [a] env = (false, eval a env) :: starEach [] env := by intro _; rfl) : DEx Γ (.Call (.Name "list" p) [a] [] pos) (TCB gList (TCons Ta TNil)) :=
  de_callTy (fun X h => by rw [← h.K]; exact call_list_of) simc_list (da_cons ha da_nil hs) hg hm (by decide +kernel) (by decide) (by decide) hs
def gTuple : List D → (D → Prop) → Prop := fun ds P => match ds with
  | [.lst xs] => P (.tup xs)
  | [.tup xs] => P (.tup xs)
  | _ => False
theorem simc_tuple : SimC K (fun xs H Q => ∃ p ys, xs = [.ref p] ∧ ((SqL K H p ys ∧ ∀ l, H l = none → Q (.ref l) (upd H l (.tup ys))) ∨ (SqT K H p ys ∧ Q (.ref p) H))) gTuple := fun M N H vs ds Q P hi hn hd r h k => by
  unfold gTuple at h
  split at h
  · cases r with
    | cons r rr =>
      cases r with
      | lst q s =>
        cases rr
        exact ⟨_, _, rfl, .inl ⟨q.sq, fun l hl => k _ _ _ h (M.fresh _ _ _ hi hl) (Ex.new hl) (.tup (.inl ⟨fun z => hn l z hl, upd_same⟩) (s.tr (tr_new hl)))⟩⟩
  · cases r with
    | cons r rr =>
      cases r with
      | tup q s =>
        cases rr
        exact ⟨_, _, rfl, .inr ⟨q.sq, k _ _ _ h hi Ex.refl (.tup q s)⟩⟩
  · exact h.elim
theorem de_tuple {p : Pos} (ha : DEx Γ a Ta) (hg : GlB Γ "tuple") (hm : Γ.mg "tuple" = none) (hs : ∀ env : Env, starEach [a] env = (false, eval a env) :: starEach [] env := by intro _; rfl) : DEx Γ (.Call (.Name "tuple" p) [a] [] pos) (TCB gTuple (TCons Ta TNil)) :=
  de_callTy (fun X h => by rw [← h.K]; exact call_tuple_of) simc_tuple (da_cons ha da_nil hs) hg hm (by decide +kernel) (by decide) (by decide) hs
end
end DL
end

section
set_option Elab.async false
set_option linter.all false
set_option maxRecDepth 100000
set_option maxHeartbeats 5000000
namespace DL
open PySem L2 PyProof.Rows
section
variable {Γ : Ga} {X : Cx} {K : PySem.W.Frag} {M : Mt K} {H0' : Hp} {PX : XP} {a b c e e2 : Expr} {es : List Expr} {Ta Tb Tc T : TD} {TA : TDA} {pos : Pos} {E : XR} {H0 H H' : Hp} {ρ ρ' : En} {σ σ' : L2.St} {st : Stmt}
/-! ### isinstance(x, T), T built-in -/
theorem de_ty {x : Str} (t : Tn) (hg : GlB Γ x) (hm : Γ.mg x = none) (hv : bootBuiltins x = some (.type t.name)) (hn : x ≠ "__name__" := by decide) (hd : (x == ("__debug__" : Str)) = false := by decide) : DEx Γ (.Name x pos) (TC (.ty t)) :=
  ⟨_, fun X h => pe_bltn (h.gl hg) (by rw [h.mg]; exact hm) hv (show RelV (.ty t.name) _ from rfl) hn hd, sim_c fun _ _ => .ty t⟩
def isiD : D → Tn → Bool
  | .int _, .int => true
  | .bl _, .int => true
  | .bl _, .bool => true
  | .str _, .str => true
  | .tup _, .tuple => true
  | .lst _, .list => true
  | .dic _, .dict => true
  | _, _ => false
def plainTy : D → Bool
  | .ref _ => false
  | .ty _ => false
  | .ins _ _ => false
  | _ => true
def gIsi : List D → (D → Prop) → Prop := fun ds P => match ds with
  | [d, .ty t] => plainTy d = true ∧ P (.bl (isiD d t))
  | _ => False
def tyN : D → String
  | .non => "NoneType"
  | .bl _ => "bool"
  | .int _ => "int"
  | .str _ => "str"
  | .tup _ => "tuple"
  | .lst _ => "list"
  | .dic _ => "dict"
  | _ => ""
theorem Rp.tyx {N : Addr → Prop} {d : D} {v : V} (r : Rp N K H d v) (h : plainTy d = true) : TyX K H v (.type (tyN d)) := by
  cases r with
  | non => exact .base .non
  | bl b => exact .base (.bl b)
  | int i => exact .base (.int i)
  | str s => exact .base (.str _)
  | ref a => cases h
  | ty t => cases h
  | tup q r =>
    rcases q with q | ⟨o, its, n, h1, h2, _⟩
    · exact .base (.tup q.2)
    · exact .kTuple h1 h2
  | lst q r => exact .base (.lst q.2)
  | ins => cases h
  | dic n q r => exact .base (.dK q)
def isiN (a : String) : Tn → Bool
  | .int => a == "int" || a == "bool"
  | .bool => a == "bool"
  | .str => a == "str"
  | .tuple => a == "tuple"
  | .list => a == "list"
  | .dict => a == "dict"
theorem kitN0 (t : Tn) : kitB "NoneType" t.name = some (isiN "NoneType" t) := by cases t <;> decide +kernel
theorem kitN1 (t : Tn) : kitB "bool" t.name = some (isiN "bool" t) := by cases t <;> decide +kernel
theorem kitN2 (t : Tn) : kitB "int" t.name = some (isiN "int" t) := by cases t <;> decide +kernel
theorem kitN3 (t : Tn) : kitB "str" t.name = some (isiN "str" t) := by cases t <;> decide +kernel
theorem kitN4 (t : Tn) : kitB "tuple" t.name = some (isiN "tuple" t) := by cases t <;> decide +kernel
theorem kitN5 (t : Tn) : kitB "list" t.name = some (isiN "list" t) := by cases t <;> decide +kernel
theorem kitN6 (t : Tn) : kitB "dict" t.name = some (isiN "dict" t) := by cases t <;> decide +kernel
theorem isiN0 (t : Tn) : isiN "NoneType" t = false := by cases t <;> decide +kernel
theorem kit_tyN {d : D} {t : Tn} (h : plainTy d = true) : kitB (tyN d) t.name = some (isiD d t) := by
  cases d with
  | non => exact (kitN0 t).trans (congrArg some (by cases t <;> decide +kernel))
  | bl b => exact (kitN1 t).trans (congrArg some (by cases t <;> first | exact (by decide +kernel : isiN "bool" Tn.int = true) | exact (by decide +kernel : isiN "bool" Tn.bool = true) | exact (by decide +kernel : isiN "bool" Tn.str = false) | exact (by decide +kernel : isiN "bool" Tn.tuple = false) | exact (by decide +kernel : isiN "bool" Tn.list = false) | exact (by decide +kernel : isiN "bool" Tn.dict = false)))
  | int b => exact (kitN2 t).trans (congrArg some (by cases t <;> first | exact (by decide +kernel : isiN "int" Tn.int = true) | exact (by decide +kernel : isiN "int" Tn.bool = false) | exact (by decide +kernel : isiN "int" Tn.str = false) | exact (by decide +kernel : isiN "int" Tn.tuple = false) | exact (by decide +kernel : isiN "int" Tn.list = false) | exact (by decide +kernel : isiN "int" Tn.dict = false)))
  | str b => exact (kitN3 t).trans (congrArg some (by cases t <;> first | exact (by decide +kernel : isiN "str" Tn.int = false) | exact (by decide +kernel : isiN "str" Tn.bool = false) | exact (by decide +kernel : isiN "str" Tn.str = true) | exact (by decide +kernel : isiN "str" Tn.tuple = false) | exact (by decide +kernel : isiN "str" Tn.list = false) | exact (by decide +kernel : isiN "str" Tn.dict = false)))
  | tup b => exact (kitN4 t).trans (congrArg some (by cases t <;> first | exact (by decide +kernel : isiN "tuple" Tn.int = false) | exact (by decide +kernel : isiN "tuple" Tn.bool = false) | exact (by decide +kernel : isiN "tuple" Tn.str = false) | exact (by decide +kernel : isiN "tuple" Tn.tuple = true) | exact (by decide +kernel : isiN "tuple" Tn.list = false) | exact (by decide +kernel : isiN "tuple" Tn.dict = false)))
  | lst b => exact (kitN5 t).trans (congrArg some (by cases t <;> first | exact (by decide +kernel : isiN "list" Tn.int = false) | exact (by decide +kernel : isiN "list" Tn.bool = false) | exact (by decide +kernel : isiN "list" Tn.str = false) | exact (by decide +kernel : isiN "list" Tn.tuple = false) | exact (by decide +kernel : isiN "list" Tn.list = true) | exact (by decide +kernel : isiN "list" Tn.dict = false)))
  | dic b => exact (kitN6 t).trans (congrArg some (by cases t <;> first | exact (by decide +kernel : isiN "dict" Tn.int = false) | exact (by decide +kernel : isiN "dict" Tn.bool = false) | exact (by decide +kernel : isiN "dict" Tn.str = false) | exact (by decide +kernel : isiN "dict" Tn.tuple = false) | exact (by decide +kernel : isiN "dict" Tn.list = false) | exact (by decide +kernel : isiN "dict" Tn.dict = true)))
  | ref a => cases h
  | ty a => cases h
  | ins C fs => cases h
theorem simc_isi : SimC K (rIsi K) gIsi := fun M N H vs ds Q P hi _ _ r h k => by
  unfold gIsi at h
  split at h
  · rename_i d t
    cases r with
    | cons r rr =>
      cases rr with
      | cons r2 rr =>
        cases r2
        cases rr
        exact ⟨_, _, _, _, _, rfl, .ty _, r.tyx h.1, kit_ty (kit_tyN h.1), k _ _ H h.2 hi Ex.refl (.bl _)⟩
  · exact h.elim
theorem de_isi {p : Pos} (ha : DAx Γ [a, b] TA) (hg : GlB Γ "isinstance") (hm : Γ.mg "isinstance" = none) (he : ∀ env : Env, starEach [a, b] env = (false, eval a env) :: starEach [b] env := by intro _; rfl) (hpl : ∀ env : Env, (backTo pos (starEach [b] env)).any (·.1) = false := by intro _; rfl) :
    DEx Γ (.Call (.Name "isinstance" p) [a, b] [] pos) (TCB gIsi TA) :=
  de_callB (fun X h => by rw [← h.K]; exact call_isi) simc_isi ha hg hm (by decide +kernel) (by decide) (by decide) he hpl
/-! ### all(xs), any(xs) of True, False -/
def boolsOf : List D → Option (List Bool)
  | [] => some []
  | .bl b :: ds => (boolsOf ds).map (b :: ·)
  | _ :: _ => none
theorem Rps.bools {N : Addr → Prop} : ∀ {ds : List D} {vs : List V} {bs : List Bool}, Rps N K H ds vs → boolsOf ds = some bs → vs = bs.map V.bl
  | _, _, bs, .nil, h => by cases h; rfl
  | d :: ds, _, bs, .cons r rr, h => by
    cases r with
    | bl b =>
      unfold boolsOf at h
      cases e : boolsOf ds with
      | none => rw [e] at h; cases h
      | some cs =>
        rw [e] at h
        cases h
        rw [Rps.bools rr e]
        rfl
    | _ => cases h
def gAll (f : List Bool → Bool) : List D → (D → Prop) → Prop := fun ds P => match ds with
  | [.lst xs] => (match boolsOf xs with | some bs => P (.bl (f bs)) | none => False)
  | _ => False
theorem simc_all : SimC K (rAll K) (gAll fun bs => bs.all id) := fun M N H vs ds Q P hi _ _ r h k => by
  unfold gAll at h
  split at h
  · split at h
    · rename_i bs e
      cases r with
      | cons r rr =>
        cases rr
        cases r with
        | lst q s => exact ⟨_, bs, rfl, by rw [← s.bools e]; exact q.sq, k _ _ H h hi Ex.refl (.bl _)⟩
    · exact h.elim
  · exact h.elim
theorem simc_any : SimC K (rAny K) (gAll fun bs => bs.any id) := fun M N H vs ds Q P hi _ _ r h k => by
  unfold gAll at h
  split at h
  · split at h
    · rename_i bs e
      cases r with
      | cons r rr =>
        cases rr
        cases r with
        | lst q s => exact ⟨_, bs, rfl, by rw [← s.bools e]; exact q.sq, k _ _ H h hi Ex.refl (.bl _)⟩
    · exact h.elim
  · exact h.elim
theorem de_all {p : Pos} (ha : DEx Γ a Ta) (hg : GlB Γ "all") (hm : Γ.mg "all" = none) (hs : ∀ env : Env, starEach [a] env = (false, eval a env) :: starEach [] env := by intro _; rfl) (hcm : Γ.cm = true := by rfl) : DEx Γ (.Call (.Name "all" p) [a] [] pos) (TCB (gAll fun bs => bs.all id) (TCons Ta TNil)) :=
  de_callB (fun X h => by rw [← h.K]; exact cr_all (h.calm hcm)) simc_all (da_cons ha da_nil hs) hg hm (by decide +kernel) (by decide) (by decide) hs
theorem de_any {p : Pos} (ha : DEx Γ a Ta) (hg : GlB Γ "any") (hm : Γ.mg "any" = none) (hs : ∀ env : Env, starEach [a] env = (false, eval a env) :: starEach [] env := by intro _; rfl) (hcm : Γ.cm = true := by rfl) : DEx Γ (.Call (.Name "any" p) [a] [] pos) (TCB (gAll fun bs => bs.any id) (TCons Ta TNil)) :=
  de_callB (fun X h => by rw [← h.K]; exact cr_any (h.calm hcm)) simc_any (da_cons ha da_nil hs) hg hm (by decide +kernel) (by decide) (by decide) hs
/-! ### divmod, int -/
def gDivmod : List D → (D → Prop) → Prop := fun ds P => match ds with
  | [.int i, .int j] => CDiv i j ∧ P (.tup [.int (i / j), .int (i % j)])
  | _ => False
theorem simc_divmod : SimC K (fun xs H Q => ∃ i j, xs = [.int i, .int j] ∧ CDiv i j ∧ ∀ p, H p = none → Q (.ref p) (upd H p (.tup [.int (i / j), .int (i % j)]))) gDivmod := fun M N H vs ds Q P hi hn _ r h k => by
  unfold gDivmod at h
  split at h
  · cases r with
    | cons r rr =>
      cases r
      cases rr with
      | cons r rr =>
        cases r
        cases rr
        exact ⟨_, _, rfl, h.1, fun p hp => k _ _ _ h.2 (M.fresh _ _ _ hi hp) (Ex.new hp) (.tup (.inl ⟨fun z => hn p z hp, upd_same⟩) (.cons (.int _) (.cons (.int _) .nil)))⟩
  · exact h.elim
theorem de_divmod {p : Pos} (ha : DAx Γ [a, b] TA) (hg : GlB Γ "divmod") (hm : Γ.mg "divmod" = none) (he : ∀ env : Env, starEach [a, b] env = (false, eval a env) :: starEach [b] env := by intro _; rfl) (hpl : ∀ env : Env, (backTo pos (starEach [b] env)).any (·.1) = false := by intro _; rfl) :
    DEx Γ (.Call (.Name "divmod" p) [a, b] [] pos) (TCB gDivmod TA) :=
  de_callB (fun X h => call_divmod) simc_divmod ha hg hm (by decide +kernel) (by decide) (by decide) he hpl
theorem de_int1 {p : Pos} (ha : DEx Γ a Ta) (hg : GlB Γ "int") (hm : Γ.mg "int" = none) (hs : ∀ env : Env, starEach [a] env = (false, eval a env) :: starEach [] env := by intro _; rfl) : DEx Γ (.Call (.Name "int" p) [a] [] pos) (TCB gInt (TCons Ta TNil)) :=
  de_callTy (r := fun xs H Q => ∃ i, xs = [.int i] ∧ Q (.int i) H) (fun X h => fun pins s σ H vs us Q I r q => call_int1 pins s σ H vs us Q I r (.inl q)) simc_int (da_cons ha da_nil hs) hg hm (by decide +kernel) (by decide) (by decide) hs
/-! ### join of texts -/
def textsOf : List D → Option (List (List Nat))
  | [] => some []
  | .str b :: ds => (textsOf ds).map (b :: ·)
  | _ :: _ => none
theorem Rps.texts {N : Addr → Prop} : ∀ {ds : List D} {vs : List V} {bs : List (List Nat)}, Rps N K H ds vs → textsOf ds = some bs → vs = (bs.map S).map V.str
  | _, _, bs, .nil, h => by cases h; rfl
  | d :: ds, _, bs, .cons r rr, h => by
    cases r with
    | str b =>
      unfold textsOf at h
      cases e : textsOf ds with
      | none => rw [e] at h; cases h
      | some cs =>
        rw [e] at h
        cases h
        rw [Rps.texts rr e]
        rfl
    | _ => cases h
/-- x[i] = e, x the slot i's own list -/
def TPut (i : Nat) (T Tx : TD) : TDS := fun De ρ X => T ρ (fun d ρ1 => match ρ1[i]? with
  | some (some (.ow _)) => Tx ρ1 (fun k ρ2 => match k, ρ2[i]? with
    | .int j, some (some (.ow ds)) => (match ixN ds.length j with | some n => De.nx (ρ2.set i (some (.ow (ds.set n d)))) | none => False)
    | _, _ => False) X
  | _ => False) X
theorem ds_put (i : Nat) {x : Str} {p1 tpos : Pos} (he : DEx Γ e T) (hx : DEx Γ b Tb) (hN : Γ.N[i]? = some x := by rfl) (hv : Vis Γ.sc x := by first | exact Or.inl rfl | exact Or.inr (Or.inl rfl) | exact Or.inr (Or.inr rfl)) (hd : (x == ("__debug__" : Str)) = false := by decide)
    (hcd : (x == ("__classdict__" : Str)) = false := by decide)
    (ha : ∀ (env : Env) v, assign (.Subscript (.Name x p1) b tpos) env v = (do let ov ← holding [v] (eval (.Name x p1) env); let iv ← holding [v, ov] (eval b env); standAt tpos; holding [v, ov, iv] (setItem ov iv v); release [v, ov, iv] []) := by intro _ _; rfl)
    (hs : ∀ env, swapsWithSole [.Subscript (.Name x p1) b tpos] e pos.line env = pure false := by intro _; rfl) (hw : ∀ env, swappedStores [.Subscript (.Name x p1) b tpos] e env = pure none := by intro _; rfl)
    (h1 : ∀ env, (assignEach [.Subscript (.Name x p1) b tpos] env).map (·.2) = [assign (.Subscript (.Name x p1) b tpos) env] := by intro _; rfl) :
    DS Γ (.Assign [.Subscript (.Name x p1) b tpos] e pos) (TPut i T Tb) := by
  obtain ⟨t, p, s⟩ := he
  obtain ⟨tb, pb, sb⟩ := hx
  refine ⟨tAsg t (L2.gSub (tVar i) tb rSetL), fun X h => ps_asg (p X h) (pg_sub (pe_var (i := i) (by rw [h.N]; exact hN) (by rw [h.sc]; exact hv) hd hcd) (pb X h) set_list (ha _)) (hs _) (hw _) (h1 _), fun M H0 ρ σ H D0 D' PX R L k q => s M H0 ρ σ H _ _ PX R L q fun d ρ1 v H1 q1 R1 e1 o1 r1 => ?_⟩
  split at q1
  · rename_i ds0 ed0
    obtain ⟨q0, xs0, hq, nd, _, hx, _⟩ := R1.ow i ds0 ed0
    refine ⟨_, hq, sb M H0 ρ1 σ H1 _ _ PX R1 L q1 fun dk ρ2 vk H2 q2 R2 e2 o2 r2 => ?_⟩
    split at q2
    · rename_i j ds ed
      cases r2
      split at q2
      · rename_i n en
        obtain ⟨q', xs, a1, a2, a3, a4, a5⟩ := R2.ow i ds ed
        rw [hq] at a1; cases a1
        exact ⟨q0, xs, j, n, rfl, rfl, a4, by rw [← a5.length]; exact en, k.nx _ _ _ (R2.mut ed hq a4 (a5.set (r1.tr (tr_own o2 e2)) n)) q2⟩
      · exact q2.elim
    · exact q2.elim
  · exact q1.elim
/-! ### x += e, ints -/
def TAug (i : Nat) (f : Int → Int → Int) (T : TD) : TDS := fun De ρ X => match ρ[i]? with
  | some (some (.sh (.int j))) => T ρ (fun d ρ1 => match d with | .int k => De.nx (ρ1.set i (some (.sh (.int (f j k))))) | _ => False) X
  | _ => False
theorem ds_augI (i : Nat) {x : Str} {op : Operator} {f : Int → Int → Int} {pos' : Pos} (hop : ∀ X : Cx, PIp X op (ipI f)) (he : DEx Γ e T) (hN : Γ.N.Nodup) (hi : Γ.N[i]? = some x) (hx : LocF Γ x) : DS Γ (.AugAssign (.Name x pos') op e pos) (TAug i f T) := by
  obtain ⟨t, p, s⟩ := he
  refine ⟨tAug i t (ipI f), fun X h => ps_aug (by rw [h.N]; exact hN) (by rw [h.N]; exact hi) (hx.loc h) (p X h) (hop X) (hx.fn h), fun M H0 ρ σ H D0 D' PX R L k q => ?_⟩
  unfold TAug at q
  split at q
  · rename_i j ed
    obtain ⟨v, a1, a2⟩ := R.sh i _ ed
    cases a2
    refine ⟨_, a1, s M H0 ρ σ H _ _ PX R L q fun d ρ1 v H1 q1 R1 e1 o1 r1 => ?_⟩
    cases r1 <;> first
      | exact q1.elim
      | exact ⟨_, _, rfl, rfl, k.nx _ _ _ (R1.setSh (.int _)) q1⟩
  · exact q.elim
theorem ds_augAdd (i : Nat) {x : Str} {pos' : Pos} (he : DEx Γ e T) (hN : Γ.N.Nodup) (hi : Γ.N[i]? = some x := by rfl) (hx : LocF Γ x := by first | exact Or.inl rfl | exact Or.inr ⟨rfl, rfl⟩) : DS Γ (.AugAssign (.Name x pos') .Add e pos) (TAug i (fun i j => i + j) T) :=
  ds_augI i (fun _ => ip_add) he hN hi hx
theorem ds_augSub (i : Nat) {x : Str} {pos' : Pos} (he : DEx Γ e T) (hN : Γ.N.Nodup) (hi : Γ.N[i]? = some x := by rfl) (hx : LocF Γ x := by first | exact Or.inl rfl | exact Or.inr ⟨rfl, rfl⟩) : DS Γ (.AugAssign (.Name x pos') .Sub e pos) (TAug i (fun i j => i - j) T) :=
  ds_augI i (fun _ => ip_sub) he hN hi hx
end
end DL
end

section
set_option Elab.async false
set_option linter.all false
set_option maxRecDepth 100000
set_option maxHeartbeats 5000000
namespace DL
open PySem L2 PyProof.Rows TL
section
variable {Γ : Ga} {X : Cx} {K : PySem.W.Frag} {M : Mt K} {H0' : Hp} {PX : XP} {a b c e e2 : Expr} {es : List Expr} {Ta Tb Tc T : TD} {TA : TDA} {pos : Pos} {E : XR} {H0 H H' : Hp} {ρ ρ' : En} {σ σ' : L2.St} {st : Stmt}
/-! ### sep.join(texts) -/
theorem txt_join (a : List Nat) (bs : List (List Nat)) : Txt.join (S a) (bs.map S) = S (joinL a bs) := by
  rw [join_eq]
  have h := tl_join (S a) (bs.map S)
  have e1 : (bs.map S).map tl = bs := by
    rw [List.map_map]
    have : (tl ∘ S) = id := by
      funext x
      rfl
    rw [this, List.map_id]
  rw [e1] at h
  have h' : (Str.join (S a) (bs.map S)).cps.toList = joinL a bs := h
  show Str.join (S a) (bs.map S) = ⟨(joinL a bs).toArray⟩
  rw [← h']
def gJoin (a : List Nat) : D → (D → Prop) → Prop := fun y P => match itemsD y with
  | some xs => (match textsOf xs with | some bs => (bs.map List.length).sum + bs.length * a.length ≤ 100000 ∧ P (.str (joinL a bs)) | none => False)
  | none => False
def TJoin (To Te : TD) : TD := fun ρ Q X => To ρ (fun x ρ1 => match x with
  | .str a => Te ρ1 (fun y ρ2 => gJoin a y fun z => Q z ρ2) X
  | _ => False) X
theorem sumS (bs : List (List Nat)) : ((bs.map S).map Str.length).sum = (bs.map List.length).sum := by
  rw [List.map_map]
  have : (Str.length ∘ S) = List.length := by
    funext x
    exact S_len x
  rw [this]
theorem de_join {apos : Pos} (ho : DEx Γ a Ta) (he : DEx Γ e Tb) (hs : ∀ env : Env, starEach [e] env = [(false, eval e env)] := by intro _; rfl) (hbase : ∀ env : Env, attributeBase a "join" env (eval a env) = eval a env := by intro _; rfl) (hline : (apos.endLine == pos.line) = true := by rfl) :
    DEx Γ (.Call (.Attribute a "join" apos) [e] [] pos) (TJoin Ta Tb) := by
  obtain ⟨ta, pa, sa⟩ := ho
  obtain ⟨tb, pb, sb⟩ := he
  refine ⟨tM1 (fun x xs H Q => ∃ a p, ∃ ys : List Str, x = .str a ∧ xs = [.ref p] ∧ (SqL Γ.K H p (ys.map V.str) ∨ SqT Γ.K H p (ys.map V.str)) ∧ (ys.map (·.length)).sum + ys.length * a.length ≤ 16777216 ∧ Q (.str (Txt.join a ys)) H) ta tb,
    fun X h => by rw [← h.K]; exact pe_join (pa X h) (pb X h) (hs _) (hbase _) hline, fun M H0 ρ σ H Q Q' PX R L q k => sa M H0 ρ σ H _ _ PX R L q fun d ρ1 v H1 q1 R1 e1 o1 r1 => ?_⟩
  cases r1 with
  | str cs =>
    refine ⟨⟨_, rfl⟩, sb M H0 ρ1 σ H1 _ _ PX R1 L q1 fun dy ρ2 y H2 q2 R2 e2 o2 r2 => ?_⟩
    unfold gJoin at q2
    split at q2
    · rename_i xs ex
      split at q2
      · rename_i bs eb
        obtain ⟨hz, q2⟩ := q2
        have fin : Q (.str (Txt.join (S cs) (bs.map S))) H2 := by
          rw [txt_join]
          exact k _ ρ2 _ H2 q2 R2 (e1.trans e2) (fun q z => o1 q (o2 q z)) (.str _)
        have size : ((bs.map S).map (·.length)).sum + (bs.map S).length * (S cs).length ≤ 16777216 := by
          rw [sumS, S_len, List.length_map]
          omega
        cases r2 with
        | lst q r =>
          cases ex
          exact ⟨_, _, bs.map S, rfl, rfl, .inl (by rw [← r.texts eb]; exact q.sq), size, fin⟩
        | tup q r =>
          cases ex
          exact ⟨_, _, bs.map S, rfl, rfl, .inr (by rw [← r.texts eb]; exact q.sq), size, fin⟩
        | _ => cases ex
      · exact q2.elim
    · exact q2.elim
  | _ => exact (show False from q1).elim
/-! ### classes -/
/-- what a class's __init__ promises: the new instance as data -/
def spMk (K : PySem.W.Frag) (C : Addr) (n : Nat) (S : Spec) : Sp := fun vs H Q E => ∃ (M : Mt K) (ds : List D) (x dx : Addr) (H1 : Hp) (us : List V), vs = .ref x :: us ∧ M.inv H1 ∧ Rps M.dom K H1 ds us ∧ ds.length = n ∧ H1 x = none ∧ H1 dx = none ∧ dx ≠ x ∧
  H = upd (upd H1 dx (.own x)) x (.ins C dx []) ∧ S.pre M.row ds ∧ (∀ d H', S.post M.row ds d → M.inv H' → Ex M H1 H' → Rp M.dom K H' d (.ref x) → Q .non H') ∧
  (∀ xc cls dd H', S.exc M.row ds xc → M.inv H' → Ex M H1 H' → RpX M.dom K H' xc cls dd → E cls dd H')
structure MakeOk (Γ : Ga) (k : Nat) (x : Str) (C : Addr) (n : Nat) (S : Spec) : Prop where
  ex : ∃ (f : Addr) (fd : FuncData) (ps : List Str), FnOk Γ.P Γ.w Γ.K Γ.mg Γ.base (L2.CX Γ.P Γ.w) k f fd ps (spMk Γ.K C n S) ∧ Γ.mg x = some (.ref C) ∧ Mk Γ.K C f ∧ Binds Γ.K fd ps []
theorem MakeOk.at {Γ' : Ga} {k n : Nat} {C : Addr} {x : Str} {S : Spec} (h : MakeOk Γ k x C n S) (h1 : Γ'.P = Γ.P := by rfl) (h2 : Γ'.w = Γ.w := by rfl) (h3 : Γ'.K = Γ.K := by rfl) (h4 : Γ'.mg = Γ.mg := by rfl) (h5 : Γ'.base = Γ.base := by rfl) : MakeOk Γ' k x C n S := by
  obtain ⟨f, fd, ps, h⟩ := h.ex
  exact ⟨f, fd, ps, by rw [h1, h2, h3, h4, h5]; exact h⟩
theorem sim_make {n : Nat} {C : Addr} {S : Spec} {t : L2.TA} (h : SimA K E t TA) : Sim K E (tMake C (spMk K C n S) [] E.E t) (TCall E.row S n TA) := fun M H0 ρ σ H Q Q' PX R L q k =>
  h M H0 ρ σ H _ _ PX R L q fun ds ρ1 vs H1 ⟨hn, hp, hq, hx⟩ R1 e1 o1 r1 x dx nx ndx ne => by
    rw [List.append_nil]
    refine ⟨M.over (Own ρ1 σ) H1 R1.over, ds, x, dx, H1, vs, rfl, ⟨R1.inv, fun _ _ => rfl⟩, r1, hn, nx, ndx, ne, rfl, by rw [show (M.over (Own ρ1 σ) H1 R1.over).row = M.row from rfl, L.1.1]; exact hp, fun d H2 hd i2 e2 r2 => ?_, fun xc cls dd H2 hd i2 e2 r2 => ?_⟩
    · have ex := ex_over i2 e2
      exact ⟨rfl, k d ρ1 _ H2 (hq d (by rw [← L.1.1]; exact hd)) (R1.grow i2.1 ex) (e1.trans ex) o1 r2⟩
    · have ex := ex_over i2 e2
      exact L.2 xc cls dd H2 (hx xc (by rw [← L.1.1]; exact hd)) ((R1.ex).trans ex) i2.1 (r2.to fun c o n z wt => ⟨fun w => n (.inl w), z⟩)
theorem de_make {k n : Nat} {x : Str} {C : Addr} {S : Spec} {p : Pos} (F : MakeOk Γ k x C n S) (hk : k + 1 ≤ Γ.k) (hg : GlB Γ x) (ha : DAx Γ (e :: es) TA) (hdb : (x == ("__debug__" : Str)) = false := by decide)
    (he : ∀ env : Env, starEach (e :: es) env = (false, eval e env) :: starEach es env := by intro _; rfl) (hpl : ∀ env : Env, (backTo pos (starEach es env)).any (·.1) = false := by intro _; rfl) (hcm : Γ.cm = true := by rfl) : DEx Γ (.Call (.Name x p) (e :: es) [] pos) (TCall Γ.E.row S n TA) := by
  obtain ⟨f, fd, ps, F, hm, mk, hb⟩ := F.ex
  obtain ⟨t, pa, sa⟩ := ha
  refine ⟨tMake C (spMk Γ.K C n S) [] Γ.E.E t, fun X h => ?_, sim_make sa⟩
  have F' : FnOk X.prog X.w X.K X.mg X.base (L2.CX X.prog X.w) k f fd ps (spMk Γ.K C n S) := by
    rw [h.prog, h.w, h.K, h.mg, h.base]
    exact F
  exact pe_make (by rw [h.K]; exact mk) F' ((h.room hcm).mono hk) (h.gl hg) (by rw [h.mg]; exact hm) (by rw [h.K]; exact hb) .nil (passes_of' h) (pa X h) hdb (he _) (hpl _)
/-- a property that reads a field -/
structure PropOk (Γ : Ga) (k : Nat) (C : Addr) (f fl : Str) : Prop where
  ex : ∃ (p g : Addr) (fd : FuncData) (ps : List Str), FnOk Γ.P Γ.w Γ.K Γ.mg Γ.base (L2.CX Γ.P Γ.w) k g fd ps (getSp C fl) ∧ Cls Γ.K C ∧ PropOf Γ.K C f p g ∧ Binds Γ.K fd ps []
theorem PropOk.at {Γ' : Ga} {k : Nat} {C : Addr} {f fl : Str} (h : PropOk Γ k C f fl) (h1 : Γ'.P = Γ.P := by rfl) (h2 : Γ'.w = Γ.w := by rfl) (h3 : Γ'.K = Γ.K := by rfl) (h4 : Γ'.mg = Γ.mg := by rfl) (h5 : Γ'.base = Γ.base := by rfl) : PropOk Γ' k C f fl := by
  obtain ⟨p, g, fd, ps, h⟩ := h.ex
  exact ⟨p, g, fd, ps, by rw [h1, h2, h3, h4, h5]; exact h⟩
def TProp (C : Addr) (fl : Str) (T : TD) : TD := fun ρ Q X => T ρ (fun d ρ1 => match d with
  | .ins C' fs => C' = C ∧ (match fs.lookup fl with | some d => Q d ρ1 | none => False)
  | _ => False) X
theorem passL' {X : Cx} : Passes (L2.CX X.prog X.w) X E0 := passL
theorem de_prop {k : Nat} {C : Addr} {f fl : Str} (F : PropOk Γ k C f fl) (hk : k + 1 ≤ Γ.k) (ha : DEx Γ a Ta) (hab : ∀ env : Env, attributeBase a f env (eval a env) = eval a env := by intro _; rfl) (hcm : Γ.cm = true := by rfl) : DEx Γ (.Attribute a f pos) (TProp C fl Ta) := by
  obtain ⟨p, g, fd, ps, F, cl, pr, hb⟩ := F.ex
  obtain ⟨t, pa, sa⟩ := ha
  refine ⟨tProp C (getSp C fl) [] E0 t, fun X h => ?_, fun M H0 ρ σ H Q Q' PX R L q k => sa M H0 ρ σ H _ _ PX R L q fun d ρ1 v H1 q1 R1 e1 o1 r1 => ?_⟩
  · have F' : FnOk X.prog X.w X.K X.mg X.base (L2.CX X.prog X.w) k g fd ps (getSp C fl) := by
      rw [h.prog, h.w, h.K, h.mg, h.base]
      exact F
    exact pe_prop (pa X h) (by rw [h.K]; exact cl) (by rw [h.K]; exact pr) F' ((h.room hcm).mono hk) (by rw [h.K]; exact hb) .nil passL (hab _)
  · cases r1 with
    | ins n h1 r =>
      obtain ⟨rfl, q1⟩ := q1
      split at q1
      · rename_i d ed
        obtain ⟨v, ev, rv⟩ := r.lookup ed
        exact ⟨_, _, _, rfl, h1, _, _, _, v, rfl, h1, ev, k d ρ1 v H1 q1 R1 e1 o1 rv⟩
      · exact q1.elim
    | _ => exact (show False from q1).elim
/-- len of an instance, by its own __len__ -/
structure LenOk (Γ : Ga) (k : Nat) (C : Addr) (S : Spec) : Prop where
  ex : ∃ (g : Addr) (fd : FuncData) (ps : List Str), FnOk Γ.P Γ.w Γ.K Γ.mg Γ.base (L2.CX Γ.P Γ.w) k g fd ps (spD Γ.K 1 S) ∧ PySem.W.findIn Γ.K (.ref C) "__len__" = some (some (.ref g)) ∧ PySem.W.isFn Γ.K (.ref g) = true ∧ Binds Γ.K fd ps []
theorem LenOk.at {Γ' : Ga} {k : Nat} {C : Addr} {S : Spec} (h : LenOk Γ k C S) (h1 : Γ'.P = Γ.P := by rfl) (h2 : Γ'.w = Γ.w := by rfl) (h3 : Γ'.K = Γ.K := by rfl) (h4 : Γ'.mg = Γ.mg := by rfl) (h5 : Γ'.base = Γ.base := by rfl) : LenOk Γ' k C S := by
  obtain ⟨g, fd, ps, h⟩ := h.ex
  exact ⟨g, fd, ps, by rw [h1, h2, h3, h4, h5]; exact h⟩
def rLenI (K : PySem.W.Frag) (C : Addr) (S : Spec) (E : XK) : List V → Hp → VK → Prop := fun xs H Q => ∃ (a dx : Addr) (fs : List (Str × V)), xs = [.ref a] ∧ H a = some (.ins C dx fs) ∧
  spD K 1 S [.ref a] H (fun v H' => ∃ n : Int, v = .int n ∧ 0 ≤ n ∧ n < 2 ^ 63 ∧ Q (.int n) H') E
theorem call_lenI {k : Nat} {C g : Addr} {fd : FuncData} {ps : List Str} {S : Spec} {Ex : XK} (F : FnOk X.prog X.w X.K X.mg X.base (L2.CX X.prog X.w) k g fd ps (spD X.K 1 S)) (hr : Room (k + 1) X.A) (hs : PySem.W.findIn X.K (.ref C) "__len__" = some (some (.ref g)))
    (hf : PySem.W.isFn X.K (.ref g) = true) (hb : Binds X.K fd ps []) (hx : Passes (L2.CX X.prog X.w) X Ex) : CallR X (.builtin "len") (rLenI X.K C S Ex) := by
  intro pins s σ H xs us Q I r h
  obtain ⟨a, dx, fs, rfl, ea, hsp⟩ := h
  cases r with
  | cons r rr =>
    cases rr
    cases r
    have ⟨mA, O, _, _, _, _⟩ := ins_get I.hok ea
    obtain ⟨od, J, _⟩ := O.look
    obtain ⟨m, hF⟩ := I.fr
    refine PySem.W.len_K hF I.ok.mod.kin J hs hf ?_
    have hl : ([Value.ref a] : List Value).length = ps.length := by
      rw [← F.len _ _ _ _ hsp]
      rfl
    have hbt := hb s [.ref a] I.kIn (by simpa using hl)
    refine wpAny_call (codeAny_mono (F.run X.A.in1 X.stack s H ⟨[.ref a], []⟩ [.ref a] [.ref a] _ Ex hr.in1 I.env0.in1 (by simpa using hbt) (.cons rfl .nil) hsp) fun r s' hq => ?_)
    cases r with
    | error er => exact hx pins σ H s er s' I hq
    | ok fl =>
      cases fl with
      | ret u =>
        obtain ⟨v, H', I3, rv, n, ev, h0, h1, q3⟩ := I.after hq
        subst ev
        obtain ⟨t, rfl⟩ := rv
        exact ⟨⟨h0, h1⟩, ⟨.int n, H', I3.tok _, ⟨_, rfl⟩, q3⟩⟩
      | next => exact False.elim hq
      | brk => exact False.elim hq
      | cont => exact False.elim hq
def TLenI (row : Addr) (S : Spec) (C : Addr) (T : TD) : TD := fun ρ Q X => T ρ (fun d ρ1 => match d with
  | .ins C' fs => C' = C ∧ S.pre row [.ins C' fs] ∧ (∀ r, S.post row [.ins C' fs] r → ∃ n : Int, r = .int n ∧ 0 ≤ n ∧ n < 2 ^ 63 ∧ Q (.int n) ρ1) ∧ ∀ x, ¬ S.exc row [.ins C' fs] x
  | _ => False) X
theorem de_lenI {k : Nat} {C : Addr} {S : Spec} {p : Pos} (F : LenOk Γ k C S) (hk : k + 1 ≤ Γ.k) (ha : DEx Γ a Ta) (hg : GlB Γ "len") (hm : Γ.mg "len" = none) (hs : ∀ env : Env, starEach [a] env = (false, eval a env) :: starEach [] env := by intro _; rfl) (hcm : Γ.cm = true := by rfl) :
    DEx Γ (.Call (.Name "len" p) [a] [] pos) (TLenI Γ.E.row S C Ta) := by
  obtain ⟨g, fd, ps, F, hfi, hfn, hb⟩ := F.ex
  obtain ⟨t, pa, sa⟩ := ha
  refine ⟨tCB (rLenI Γ.K C S Γ.E.E) (tCons t tNil), fun X h => ?_, fun M H0 ρ σ H Q Q' PX R L q k => sa M H0 ρ σ H _ _ PX R L q fun d ρ1 v H1 q1 R1 e1 o1 r1 => ?_⟩
  · have F' : FnOk X.prog X.w X.K X.mg X.base (L2.CX X.prog X.w) k g fd ps (spD X.K 1 S) := by
      rw [h.prog, h.w, h.K, h.mg, h.base]
      exact F
    refine pe_callB (id := "len") ?_ (h.gl hg) (by rw [h.mg]; exact hm) (by decide +kernel) (pa_cons (pa X h) pa_nil (hs _)) (by decide) (by decide) (hs _) rfl
    rw [← h.K]
    exact call_lenI F' ((h.room hcm).mono hk) (by rw [h.K]; exact hfi) (by rw [h.K]; exact hfn) (by rw [h.K]; exact hb) (passes_of' h)
  · cases r1 with
    | ins n h1 r =>
      obtain ⟨rfl, hp, hq, hx⟩ := q1
      refine ⟨_, _, _, rfl, h1, M.over (Own ρ1 σ) H1 R1.over, [_], ⟨R1.inv, fun _ _ => rfl⟩, .cons (.ins n h1 r) .nil, rfl, by rw [show (M.over (Own ρ1 σ) H1 R1.over).row = M.row from rfl, L.1.1]; exact hp, fun d v H2 hd i2 e2 r2 => ?_, fun x cls dd H2 hd => absurd hd (by rw [show (M.over (Own ρ1 σ) H1 R1.over).row = M.row from rfl, L.1.1]; exact hx x)⟩
      obtain ⟨n', rfl, h0, h1', q3⟩ := hq d (by rw [← L.1.1]; exact hd)
      have ex := ex_over i2 e2
      cases r2
      exact ⟨n', rfl, h0, h1', k _ ρ1 _ H2 q3 (R1.grow i2.1 ex) (e1.trans ex) o1 (.int _)⟩
    | _ => exact (show False from q1).elim
end
end DL
end

section
set_option Elab.async false
set_option linter.all false
set_option maxRecDepth 100000
set_option maxHeartbeats 5000000
namespace DL
open PySem L2 PyProof.Rows
section
variable {Γ : Ga} {X : Cx} {K : PySem.W.Frag} {M : Mt K} {H0' : Hp} {PX : XP} {a b c e e2 : Expr} {es : List Expr} {Ta Tb Tc T : TD} {TA : TDA} {TU TU' : TDT} {pos : Pos} {E : XR} {H0 H H' : Hp} {ρ ρ' : En} {σ σ' : L2.St} {st : Stmt}
/-! ### two clauses -/
/-- behind H1 only the new list at Dl has changed: it holds acc -/
def BlkAt (M : Mt K) (N : Addr → Prop) (Dl : Addr) (H1 : Hp) (acc : List D) (xs : List V) (H : Hp) : Prop :=
  M.inv H ∧ (∀ c o, ¬ M.dom c → c ≠ Dl → H1 c = some o → NoTb o → H c = some o) ∧ H Dl = some (.lst xs) ∧ Rps N K H acc xs
theorem loopB {Dl : Addr} {nd : ¬ M.dom Dl} {N : Addr → Prop} {xs0 : List V} {Hb H1 : Hp} {vs : List Nat} {J : It} {ds : List D} {g : TG} {G : TDG} {bd : L2.St → Hp → (Hp → Prop) → Prop} {TB : En → List D → (List D → Prop) → Prop} {Qd : Hp → Prop}
    (hN : ∀ c, N c ↔ (Nx M ρ σ c ∨ c = Dl)) (R : Rep (M.plus Dl xs0 nd) Hb ρ σ H1) (hy : Yl (M.plus Dl xs0 nd) (cutH ρ σ H1) J ds) (now : noOw vs ρ = true) (hg : SimG K (some vs) g G) (I : Nat → List D → Prop) (acc0 : List D) (i0 : I 0 acc0)
    (r0 : BlkAt M N Dl H1 acc0 xs0 H1) (step : ∀ (i : Nat) (d : D) (acc : List D), ds[i]? = some d → I i acc → G d (wipeD ρ vs) (fun ρ2 => TB ρ2 acc (I (i + 1))))
    (hb : ∀ (ρ2 : En) (σ2 : L2.St) (xs : List V) (H : Hp) (acc : List D) (P : List D → Prop) (Nx' : Hp → Prop), Rep (M.plus Dl xs nd) (cutH ρ σ H1) ρ2 σ2 H → BlkAt M N Dl H1 acc xs H → (∀ c, Own ρ2 σ2 c ↔ Own ρ σ c) → TB ρ2 acc P →
      (∀ acc' xs' H', P acc' → BlkAt M N Dl H1 acc' xs' H' → Nx' H') → bd σ2 H Nx')
    (done : ∀ acc xs H, I ds.length acc → BlkAt M N Dl H1 acc xs H → Qd H) :
    ∃ W : Nat → Nat → Hp → Prop, (∃ m, W 0 m H1) ∧ ∀ i m H, W i m H → (J.stop i H ∧ Qd H) ∨ (J.go i H ∧ ∃ Nx' : Hp → Prop, (∀ H', Nx' H' → ∃ m', m' < m ∧ W (i + 1) m' H') ∧
      ∀ x H', J.yld i H x H' → g x (wipe σ vs) H' fun σ2 H2 => wipe σ2 vs = wipe σ vs ∧ bd σ2 H2 Nx') := by
  have noown : ∀ c, Own (wipeD ρ vs) (wipe σ vs) c → Own ρ σ c := fun c ⟨j, es, h1, h2⟩ => ⟨j, es, (wipeD_some h1).1, (wipe_some h2).1⟩
  have own_j : ∀ (j : Nat) (es : List D), ρ[j]? = some (some (DV.ow es)) → j ∉ vs := fun j es h z => by
    have := List.all_eq_true.mp now j z
    rw [h] at this
    cases this
  have own' : ∀ c, Own ρ σ c → Own (wipeD ρ vs) (wipe σ vs) c := fun c ⟨j, es, h1, h2⟩ => ⟨j, es, by rw [wipeD_at (own_j j es h1)]; exact h1, by rw [wipe_at (own_j j es h1)]; exact h2⟩
  refine ⟨fun i m H2 => m = ds.length - i ∧ i ≤ ds.length ∧ ∃ acc xs, I i acc ∧ BlkAt M N Dl H1 acc xs H2, ⟨ds.length, rfl, Nat.zero_le _, acc0, xs0, i0, r0⟩, ?_⟩
  rintro i m H2 ⟨rfl, hle, acc, xs, hI, inv2, ex2, l2, r2⟩
  have ex1 : ∀ H3, Ex M H2 H3 → ∀ c o, ¬ (M.plus Dl xs0 nd).dom c → H1 c = some o → NoTb o → H3 c = some o := fun H3 e3 c o n z wt => e3 c o (fun w => n (.inl w)) (ex2 c o (fun w => n (.inl w)) (fun w => n (.inr w)) z wt) wt
  have toM : ∀ H3, M.inv H3 → Ex M H2 H3 → (M.plus Dl xs nd).inv H3 := fun H3 i3 e3 => ⟨i3, e3 Dl _ nd l2 trivial⟩
  have Nsub : ∀ c, Nx (M.plus Dl xs nd) (wipeD ρ vs) (wipe σ vs) c → Nx (M.plus Dl xs0 nd) ρ σ c := fun c z => z.elim .inl fun z => .inr (noown c z)
  have Rw : ∀ H3, M.inv H3 → Ex M H2 H3 → Rep (M.plus Dl xs nd) (cutH ρ σ H1) (wipeD ρ vs) (wipe σ vs) H3 := fun H3 i3 e3 => by
    have tr1 : Tr (Nx (M.plus Dl xs0 nd) ρ σ) H1 (Nx (M.plus Dl xs nd) (wipeD ρ vs) (wipe σ vs)) H3 := fun c o n z wt => ⟨fun w => n (Nsub c w), ex1 H3 e3 c o (fun w => n (.inl w)) z wt⟩
    refine ⟨toM H3 i3 e3, fun c o n z wt => ex1 H3 e3 c o n (cutH_some z).2 wt, by rw [wipeD_len, wipe_length]; exact R.len, fun j d hj => ?_, fun j es hj => ?_, fun j k es fs p h1 h2 h3 h4 => R.dj j k es fs p (wipeD_some h1).1 (wipeD_some h2).1 (wipe_some h3).1 (wipe_some h4).1⟩
    · obtain ⟨h1, nj⟩ := wipeD_some hj
      obtain ⟨v, a1, a2⟩ := R.sh j d h1
      exact ⟨v, by rw [wipe_at nj]; exact a1, a2.tr tr1⟩
    · obtain ⟨h1, nj⟩ := wipeD_some hj
      obtain ⟨p, ys, a1, a2, a3, a4, a5⟩ := R.ow j es h1
      exact ⟨p, ys, by rw [wipe_at nj]; exact a1, a2, Nw.of (cutH_own ⟨j, es, h1, a1⟩), ex1 H3 e3 p _ a2 a4 trivial, a5.tr tr1⟩
  have R2 := Rw H2 inv2 Ex.refl
  obtain ⟨y1, y2, y3⟩ := hy (M.plus Dl xs nd).inv (M.plus Dl xs nd).fresh H2 (Nx (M.plus Dl xs nd) (wipeD ρ vs) (wipe σ vs)) R2.inv R2.ex (fun c z => R2.there z) (fun c z => (Nsub c z).elim .inl fun z => .inr (.of (cutH_own z))) (fun c z => .inl z)
  by_cases hlt : i < ds.length
  · refine .inr ⟨y1 i hlt, fun H3 => ∃ acc xs, I (i + 1) acc ∧ BlkAt M N Dl H1 acc xs H3, fun H3 ⟨acc, xs, h1, h2⟩ => ⟨ds.length - (i + 1), by omega, rfl, hlt, acc, xs, h1, h2⟩, fun x H3 yx => ?_⟩
    obtain ⟨d, hd, inv3, ex3, rx⟩ := y3 i x H3 hlt yx
    have ex3' : Ex M H2 H3 := fun c o n z wt => by
      by_cases hc : c = Dl
      · subst hc
        rw [l2] at z
        cases z
        exact inv3.2
      · exact ex3 c o (fun w => w.elim n hc) z wt
    have R3 := Rw H3 inv3.1 ex3'
    refine hg (M.plus Dl xs nd) _ _ _ H3 d x _ _ R3 rx (step i d acc hd hI) fun ρ4 σ4 u4 R4 w4 o4 => ⟨?_, ?_⟩
    · have z : wipe σ4 vs = wipe (wipe σ vs) vs := w4.1
      rw [z, wipe_idem fun _ z => z]
    · have iff : ∀ c, Own ρ4 σ4 c ↔ Own ρ σ c := fun c => ⟨fun z => noown c (o4 c z), fun ⟨j, es, h1, h2⟩ => by
        have nj := own_j j es h1
        refine ⟨j, es, ?_, ?_⟩
        · have z : wipeD ρ4 vs = wipeD (wipeD ρ vs) vs := w4.2
          rw [← wipeD_at (vs := vs) nj, z, wipeD_at nj, wipeD_at nj]
          exact h1
        · have z : wipe σ4 vs = wipe (wipe σ vs) vs := w4.1
          rw [← wipe_at (vs := vs) nj, z, wipe_at nj, wipe_at nj]
          exact h2⟩
      refine hb ρ4 σ4 xs H3 acc _ _ R4 ⟨inv3.1, fun c o n nc z wt => ex3' c o n (ex2 c o n nc z wt) wt, inv3.2, r2.tr fun c o n z wt => ⟨n, ex3' c o (fun w => n ((hN c).mpr (.inl (.inl w)))) z wt⟩⟩ iff u4 fun acc' xs' H' p bl => ⟨acc', xs', p, bl⟩
  · obtain rfl : i = ds.length := by omega
    exact .inl ⟨y2, done acc xs H2 hI ⟨inv2, ex2, l2, r2⟩⟩
/-- the innermost body: a test, then the element goes onto the list -/
def TEl (TU : TDT) (T : TD) : En → List D → (List D → Prop) → Prop := fun ρ2 acc P => TU ρ2 (fun b ρ3 => ρ3 = ρ2 ∧ if b = true then T ρ2 (fun y ρ4 => ρ4 = ρ2 ∧ acc.length ≤ 100000 ∧ P (acc ++ [y])) XF else P acc) XF
theorem el_ok {Dl : Addr} {nd : ¬ M.dom Dl} {N : Addr → Prop} {H1 : Hp} {tt : L2.TT} {te : TE} (hN : ∀ c, N c ↔ (Nx M ρ σ c ∨ c = Dl)) (ht : SimT K E tt TU) (he : Sim K E te T) (hE : M.row = E.row ∧ M.tabs = E.T ∧ HotL M E.hot) (hE0 : ∀ cls d H, E.E cls d H ↔ False) :
    ∀ (ρ2 : En) (σ2 : L2.St) (xs : List V) (H : Hp) (acc : List D) (P : List D → Prop) (Nx' : Hp → Prop), Rep (M.plus Dl xs nd) (cutH ρ σ H1) ρ2 σ2 H → BlkAt M N Dl H1 acc xs H → (∀ c, Own ρ2 σ2 c ↔ Own ρ σ c) → TEl TU T ρ2 acc P →
      (∀ acc' xs' H', P acc' → BlkAt M N Dl H1 acc' xs' H' → Nx' H') → tt σ2 H fun b H3 => if b = true then te σ2 H3 fun y H4 => ∃ acc, H4 Dl = some (.lst acc) ∧ acc.length < sizeLine ∧ Nx' (upd H4 Dl (.lst (acc ++ [y]))) else Nx' H3 := by
  intro ρ2 σ2 xs H acc P Nx' R bl iff u k
  have L : ∀ {Hb : Hp}, LinkX (M.plus Dl xs nd) Hb E XF := ⟨⟨hE.1, hE.2.1, hE.2.2.of fun _ h => h.1⟩, fun _ _ _ _ h => h.elim⟩
  obtain ⟨inv2, ex2, l2, r2⟩ := bl
  refine ht _ _ ρ2 σ2 H _ _ XF R L u fun b ρ5 H5 ⟨e5, u5⟩ R5 ex5 o5 => ?_
  subst e5
  have keep : ∀ H6, (M.plus Dl xs nd).inv H6 → Ex (M.plus Dl xs nd) H H6 → Ex M H H6 := fun H6 i6 e6 c o n z wt => by
    by_cases hc : c = Dl
    · subst hc
      rw [l2] at z
      rw [i6.2]
      exact z
    · exact e6 c o (fun w => w.elim n hc) z wt
  cases b with
  | true =>
    rw [if_pos rfl] at u5 ⊢
    refine he _ _ ρ5 σ2 H5 _ _ XF R5 L u5 fun v ρ6 w H6 ⟨e6, le6, P6⟩ R6 ex6 o6 r6 => ?_
    subst e6
    have k3 := keep H6 R6.inv (ex5.trans ex6)
    have hl := r2.length
    refine ⟨xs, R6.inv.2, by rw [← hl]; exact szlt le6, k (acc ++ [v]) (xs ++ [w]) _ P6 ⟨M.other _ _ _ _ R6.inv.1 nd R6.inv.2 trivial, fun c o n nc z wt => ?_, upd_same, ?_⟩⟩
    · rw [upd_ne nc]
      exact k3 c o n (ex2 c o n nc z wt) wt
    · have t1 : Tr N H N (upd H6 Dl (.lst (xs ++ [w]))) := fun c o n z wt => ⟨n, by rw [upd_ne (fun w => n ((hN c).mpr (.inr w)))]; exact k3 c o (fun w => n ((hN c).mpr (.inl (.inl w)))) z wt⟩
      have t2 : Tr (Nx (M.plus Dl xs nd) ρ6 σ2) H6 N (upd H6 Dl (.lst (xs ++ [w]))) := fun c o n z wt => by
        have nn : ¬ N c := fun w => ((hN c).mp w).elim (fun w => w.elim (fun w => n (.inl (.inl w))) fun w => n (.inr ((iff c).mpr w))) fun w => n (.inl (.inr w))
        exact ⟨nn, by rw [upd_ne (fun w => nn ((hN c).mpr (.inr w)))]; exact z⟩
      exact (r2.tr t1).app (Rps.one (r6.tr t2))
  | false =>
    rw [if_neg Bool.false_ne_true] at u5 ⊢
    have k3 := keep H5 R5.inv ex5
    exact k acc xs H5 u5 ⟨R5.inv.1, fun c o n nc z wt => k3 c o n (ex2 c o n nc z wt) wt, R5.inv.2, r2.tr fun c o n z wt => ⟨n, k3 c o (fun w => n ((hN c).mpr (.inl (.inl w)))) z wt⟩⟩
def TLc2 (Ti : TDI) (G : TDG) (TU : TDT) (Ti1 : TDI) (G1 : TDG) (TU1 : TDT) (T : TD) (vs vs1 : List Nat) : TDL := fun ρ Q X => Ti ρ (fun ds ρ1 => noOw vs ρ1 = true ∧ ∃ I : Nat → List D → Prop, I 0 [] ∧
  (∀ (i : Nat) (d : D) (acc : List D), ds[i]? = some d → I i acc → G d (wipeD ρ1 vs) (fun ρ2 => TU ρ2 (fun b ρ3 => ρ3 = ρ2 ∧ if b = true then Ti1 ρ2 (fun es ρ4 => ρ4 = ρ2 ∧ noOw vs1 ρ2 = true ∧ ∃ I1 : Nat → List D → Prop, I1 0 acc ∧
    (∀ (j : Nat) (d1 : D) (acc1 : List D), es[j]? = some d1 → I1 j acc1 → G1 d1 (wipeD ρ2 vs1) (fun ρ5 => TEl TU1 T ρ5 acc1 (I1 (j + 1)))) ∧ ∀ acc1, I1 es.length acc1 → I (i + 1) acc1) XF else I (i + 1) acc) XF)) ∧
  ∀ acc, I ds.length acc → Q acc ρ1) X
theorem sim_lc2 {wi wi1 : TI} {g g1 : TG} {tt tt1 : L2.TT} {te : TE} {Ti Ti1 : TDI} {G G1 : TDG} {TU1 : TDT} {vs vs1 : List Nat} (hi : SimI K E wi Ti) (hg : SimG K (some vs) g G) (ht : SimT K ⟨E0, E.row, E.T, E.hot⟩ tt TU) (hi1 : SimI K ⟨E0, E.row, E.T, E.hot⟩ wi1 Ti1) (hg1 : SimG K (some vs1) g1 G1)
    (ht1 : SimT K ⟨E0, E.row, E.T, E.hot⟩ tt1 TU1) (he : Sim K ⟨E0, E.row, E.T, E.hot⟩ te T) : SimL K E (tLc2 wi g tt wi1 g1 tt1 te vs vs1) (TLc2 Ti G TU Ti1 G1 TU1 T vs vs1) :=
  fun M H0 ρ σ H Q Q' PX R L q k => hi M H0 ρ σ H _ _ PX R L q fun ds ρ1 J H1 ⟨now, I, i0, step, done⟩ R1 e1 o1 y Dl hD => by
    have nd : ¬ M.dom Dl := fun z => M.nfree _ _ R1.inv z hD
    have nN : ¬ Nx M ρ1 σ Dl := R1.new hD
    have inv1 := M.fresh _ Dl (.lst []) R1.inv hD
    have Rb : Rep (M.plus Dl [] nd) (cutH ρ1 σ H1) ρ1 σ (upd H1 Dl (.lst [])) := by
      have t : Tr (Nx M ρ1 σ) H1 (Nx (M.plus Dl [] nd) ρ1 σ) (upd H1 Dl (.lst [])) := fun c o n z wt => ⟨fun w => w.elim (fun w => w.elim (fun w => n (.inl w)) fun w => by (rw [w, hD] at z; cases z)) fun w => n (.inr w), by rw [upd_ne (ne_of_none z hD)]; exact z⟩
      refine ⟨⟨inv1, upd_same⟩, fun c o n z wt => by rw [upd_ne (ne_of_none (cutH_some z).2 hD)]; exact (cutH_some z).2, R1.len, fun j d hj => ?_, fun j es hj => ?_, R1.dj⟩
      · obtain ⟨v, a1, a2⟩ := R1.sh j d hj
        exact ⟨v, a1, a2.tr t⟩
      · obtain ⟨p, ys, a1, a2, a3, a4, a5⟩ := R1.ow j es hj
        exact ⟨p, ys, a1, fun w => w.elim a2 fun w => by (rw [w, hD] at a4; cases a4), Nw.of (cutH_own ⟨j, es, hj, a1⟩), by rw [upd_ne (ne_of_none a4 hD)]; exact a4, a5.tr t⟩
    have hN : ∀ c, (fun c => Nx M ρ1 σ c ∨ c = Dl) c ↔ (Nx M ρ1 σ c ∨ c = Dl) := fun c => Iff.rfl
    have cutEx : ∀ H2, Ex (M.plus Dl [] nd) (cutH ρ1 σ (upd H1 Dl (.lst []))) H2 → Ex M (cutH ρ1 σ H1) H2 := fun H2 e c o n z wt => e c o (fun w => w.elim n fun w => by (rw [w, cutH_none hD] at z; cases z)) (cutH_of (cutH_some z).1 (by rw [upd_ne (ne_of_none (cutH_some z).2 hD)]; exact (cutH_some z).2)) wt
    have yb : Yl (M.plus Dl [] nd) (cutH ρ1 σ (upd H1 Dl (.lst []))) J ds := fun inv' hf H2 N i2 ex2 n1 n2 n3 => by
      obtain ⟨a1, a2, a3⟩ := y inv' hf H2 N i2 (cutEx H2 ex2) n1 (fun c z => by
        by_cases hc : c = Dl
        · exact .inr (by rw [hc]; exact .of (cutH_none hD))
        · rcases n2 c z with w | w
          · exact .inl (w.elim id fun w => absurd w hc)
          · refine .inr ?_
            by_cases ho : Own ρ1 σ c
            · exact .of (cutH_own ho)
            · exact fun o q wt => w o (cutH_of ho (by rw [upd_ne hc]; exact (cutH_some q).2)) wt) (fun c z => n3 c (.inl z))
      exact ⟨a1, a2, fun i x H3 hi yx => by
        obtain ⟨d, b1, b2, b3, b4⟩ := a3 i x H3 hi yx
        exact ⟨d, b1, b2, fun c o n z wt => b3 c o (fun w => n (.inl w)) z wt, b4⟩⟩
    refine loopB (N := fun c => Nx M ρ1 σ c ∨ c = Dl) (TB := fun ρ2 acc P => TU ρ2 (fun b ρ3 => ρ3 = ρ2 ∧ if b = true then Ti1 ρ2 (fun es ρ4 => ρ4 = ρ2 ∧ noOw vs1 ρ2 = true ∧ ∃ I1 : Nat → List D → Prop, I1 0 acc ∧
      (∀ (j : Nat) (d1 : D) (acc1 : List D), es[j]? = some d1 → I1 j acc1 → G1 d1 (wipeD ρ2 vs1) (fun ρ5 => TEl TU1 T ρ5 acc1 (I1 (j + 1)))) ∧ ∀ acc1, I1 es.length acc1 → P acc1) XF else P acc) XF)
      hN Rb yb now hg I [] i0 ⟨inv1, fun c o n nc z _ => z, upd_same, .nil⟩ step ?_ ?_
    · intro ρ2 σ2 xs H2 acc P Nx' R2 bl iff u kk
      have L2' : ∀ {Hb : Hp}, LinkX (M.plus Dl xs nd) Hb ⟨E0, E.row, E.T, E.hot⟩ XF := ⟨⟨L.1.1, L.1.2.1, L.1.2.2.of fun _ h => h.1⟩, fun _ _ _ _ h => h.elim⟩
      have keepB : ∀ H6, (M.plus Dl xs nd).inv H6 → Ex (M.plus Dl xs nd) H2 H6 → BlkAt M (fun c => Nx M ρ1 σ c ∨ c = Dl) Dl (upd H1 Dl (.lst [])) acc xs H6 := fun H6 i6 e6 =>
        ⟨i6.1, fun c o n nc z wt => e6 c o (fun w => w.elim n nc) (bl.2.1 c o n nc z wt) wt, i6.2, bl.2.2.2.tr fun c o n z wt => ⟨n, e6 c o (fun w => w.elim (fun w => n (.inl (.inl w))) fun w => n (.inr w)) z wt⟩⟩
      refine ht _ _ ρ2 σ2 H2 _ _ XF R2 L2' u fun b ρ3 H3 ⟨e3, u3⟩ R3 ex3 o3 => ?_
      subst e3
      have bl3 := keepB H3 R3.inv ex3
      cases b with
      | false =>
        rw [if_neg Bool.false_ne_true] at u3 ⊢
        exact kk acc xs H3 u3 bl3
      | true =>
        rw [if_pos rfl] at u3 ⊢
        refine hi1 _ _ ρ3 σ2 H3 _ _ XF R3 L2' u3 fun es ρ4 J1 H4 ⟨e4, now1, I1, i1, step1, done1⟩ R4 ex4 o4 y4 => ?_
        subst e4
        have bl4 := keepB H4 R4.inv (ex3.trans ex4)
        have hN4 : ∀ c, (fun c => Nx M ρ1 σ c ∨ c = Dl) c ↔ (Nx M ρ4 σ2 c ∨ c = Dl) := fun c => by
          show ((M.dom c ∨ Own ρ1 σ c) ∨ c = Dl) ↔ ((M.dom c ∨ Own ρ4 σ2 c) ∨ c = Dl)
          rw [iff c]
        refine loopB (N := fun c => Nx M ρ1 σ c ∨ c = Dl) (TB := TEl TU1 T) hN4 R4 y4 now1 hg1 I1 acc i1 ⟨bl4.1, fun c o n nc z _ => z, bl4.2.2.1, bl4.2.2.2⟩ step1 (el_ok (E := ⟨E0, E.row, E.T, E.hot⟩) hN4 ht1 he L.1 fun _ _ _ => Iff.rfl) fun acc1 xs1 H5 hI1 bl5 => ?_
        exact kk acc1 xs1 H5 (done1 acc1 hI1) ⟨bl5.1, fun c o n nc z wt => bl5.2.1 c o n nc (bl4.2.1 c o n nc z wt) wt, bl5.2.2.1, bl5.2.2.2⟩
    · intro acc xs H2 hI bl
      have ex2 : Ex M H1 H2 := fun c o n z wt => bl.2.1 c o n (fun w => by (rw [w, hD] at z; cases z)) (by rw [upd_ne (ne_of_none z hD)]; exact z) wt
      exact k acc ρ1 Dl xs H2 (done acc hI) (R1.grow bl.1 ex2) (e1.trans ex2) o1 (Nw.back e1 nd (.of hD)) bl.2.2.1 nN (bl.2.2.2.tr fun c o n z wt => ⟨fun w => n (.inl w), z⟩) bl.2.2.2 (R1.av (.of hD) ex2)
theorem dl_lc2 {elt tg iter tg1 iter1 : Expr} {ifs ifs1 : List Expr} {scope : Scope} {Ti Ti1 : TDI} {G G1 : TDG} {TU1 : TDT} (own : List (Str × Nat)) (vs1 : List Nat) (hN : Γ.N.Nodup) (ok : blkC Γ.N Γ.sc scope own = true) (hv : ∀ i ∈ vs1, i ∈ own.map (·.2)) (hi : DIx Γ tg iter Ti) (hg : DGx (Γ.inner scope) (some (own.map (·.2))) tg G)
    (ht : DTsx (Γ.inner scope) ifs TU) (hi1 : DIx (Γ.inner scope) tg1 iter1 Ti1) (hg1 : DGx (Γ.inner scope) (some vs1) tg1 G1) (ht1 : DTsx (Γ.inner scope) ifs1 TU1) (he : DEx (Γ.inner scope) elt T)
    (hs : ∀ env x, foldedSetIterable iter env x = pure x := by intro _ _; rfl) (hs1 : ∀ env x, foldedSetIterable iter1 env x = pure x := by intro _ _; rfl) (hcm : Γ.cm = true := by rfl) :
    DLx Γ (.ListComp elt [⟨tg, iter, ifs, 0⟩, ⟨tg1, iter1, ifs1, 0⟩] scope pos) (TLc2 Ti G TU Ti1 G1 TU1 T (own.map (·.2)) vs1) := by
  obtain ⟨wi, pi, si⟩ := hi
  obtain ⟨g, pg, sg⟩ := hg
  obtain ⟨tt, pt, st⟩ := ht
  obtain ⟨wi1, pi1, si1⟩ := hi1
  obtain ⟨g1, pg1, sg1⟩ := hg1
  obtain ⟨tt1, pt1, st1⟩ := ht1
  obtain ⟨te, pe, se⟩ := he
  exact ⟨_, fun X h => pe_lc2 (h.calm hcm) (by rw [h.N]; exact hN) (pi X h) (by rw [h.N, h.sc]; exact blkOk_by ok) hv (fun s H C cl fp => pg _ (h.inner scope s H C cl fp)) (fun s H C cl fp => pt _ (h.inner scope s H C cl fp)) (fun s H C cl fp => pi1 _ (h.inner scope s H C cl fp))
    (fun s H C cl fp => pg1 _ (h.inner scope s H C cl fp)) (fun s H C cl fp => pt1 _ (h.inner scope s H C cl fp)) (fun s H C cl fp => pe _ (h.inner scope s H C cl fp)) (hs _) hs1, sim_lc2 si sg st si1 sg1 st1 se⟩
end
end DL
end

section
set_option Elab.async false
set_option linter.all false
set_option maxRecDepth 100000
set_option maxHeartbeats 5000000
namespace DL
open PySem L2 PyProof.Rows
section
variable {Γ : Ga} {X : Cx} {K : PySem.W.Frag} {M : Mt K} {H0' : Hp} {PX : XP} {a b c e e2 : Expr} {es : List Expr} {Ta Tb Tc T : TD} {TA : TDA} {pos : Pos} {E : XR} {H0 H H' : Hp} {ρ ρ' : En} {σ σ' : L2.St} {st : Stmt}
/-- what is walked or picked from, as things -/
def seqD : D → Option (List D)
  | .lst xs => some xs
  | .tup xs => some xs
  | .str cs => some (cs.map fun c => .str [c])
  | _ => none
/-! ### constants of the text -/
structure GlC (mg : Str → Option Value) (x : Str) (d : D) : Prop where
  ex : ∃ (v : V) (u : Value), mg x = some u ∧ RelV v u ∧ ∀ N K H, Rp N K H d v
theorem de_gc {x : Str} {d : D} (g : GlC Γ.mg x d) (hg : Γ.sc.names.lookup x = some .globalImplicit := by rfl) (hd : (x == ("__debug__" : Str)) = false := by decide) : DEx Γ (.Name x pos) (TC d) := by
  obtain ⟨v, u, hm, r, hr⟩ := g.ex
  exact de_glob d hg hm r (fun N H => hr N _ H) hd
/-! ### a, b = x, y, both plain locals -/
def TPar (i j : Nat) (A : TDA) : TDS := fun De ρ X => A ρ (fun ds ρ1 => match ds with | [d, e] => De.nx ((ρ1.set i (some (.sh d))).set j (some (.sh e))) | _ => False) X
theorem ds_par (i j : Nat) {x y : Str} {px py pt : Pos} {kt k2 : Nat} {pt2 : Pos} (ha : DAx Γ [a, b] TA) (hN : Γ.N.Nodup) (hi : Γ.N[i]? = some x := by rfl) (hj : Γ.N[j]? = some y := by rfl) (hij : i ≠ j := by decide)
    (hx : Γ.sc.names.lookup x = some .local := by rfl) (hy : Γ.sc.names.lookup y = some .local := by rfl)
    (hw : ∀ env : Env, env.scope = Γ.sc → swappedStores [.Tuple [.Name x px, .Name y py] kt pt] (.Tuple [a, b] k2 pt2) env = pure (some [x, y]))
    (hs : ∀ env : Env, swapsWithSole [.Tuple [.Name x px, .Name y py] kt pt] (.Tuple [a, b] k2 pt2) pos.line env = pure false := by intro _; rfl) (hcm : Γ.cm = true := by rfl) :
    DS Γ (.Assign [.Tuple [.Name x px, .Name y py] kt pt] (.Tuple [a, b] k2 pt2) pos) (TPar i j TA) := by
  obtain ⟨t, pa, sa⟩ := ha
  refine ⟨tPar i j t, fun X h => ps_par (h.calm hcm) (by rw [h.N]; exact hN) (by rw [h.N]; exact hi) (by rw [h.N]; exact hj) hij (by rw [h.sc]; exact hx) (by rw [h.sc]; exact hy) (pa X h) (hw _ h.sc) (hs _), fun M H0 ρ σ H D0 D' PX R L k q => sa M H0 ρ σ H _ _ PX R L q fun ds ρ1 vs H1 q1 R1 e1 o1 r1 => ?_⟩
  split at q1
  · cases r1 with
    | cons r rr =>
      cases rr with
      | cons r2 rr =>
        cases rr
        refine ⟨_, _, rfl, k.nx _ _ _ ((R1.setSh r).setSh (r2.tr fun c o n z wt => ⟨fun w => n (w.elim .inl fun w => .inr (own_setSh w).1), z⟩)) q1⟩
  · exact q1.elim
/-! ### list(..), a new list -/
def TListL (T : TD) : TDL := fun ρ Q X => T ρ (fun d ρ1 => match itemsD d with | some xs => Q xs ρ1 | none => False) X
theorem dl_list {p : Pos} (ha : DEx Γ a Ta) (hg : GlB Γ "list") (hm : Γ.mg "list" = none) (hs : ∀ env : Env, starEach [a] env = (false, eval a env) :: starEach [] env := by intro _; rfl) : DLx Γ (.Call (.Name "list" p) [a] [] pos) (TListL Ta) := by
  obtain ⟨t, pa, sa⟩ := ha
  refine ⟨tCB (fun xs H Q => ∃ p ys, xs = [.ref p] ∧ (SqL Γ.K H p ys ∨ SqT Γ.K H p ys) ∧ ∀ l, H l = none → Q (.ref l) (upd H l (.lst ys))) (tCons t tNil), fun X h => ?_, fun M H0 ρ σ H Q Q' PX R L q k => sa M H0 ρ σ H _ _ PX R L q fun d ρ1 v H1 q1 R1 e1 o1 r1 => ?_⟩
  · have hc : CallR X (.type "list") (fun xs H Q => ∃ p ys, xs = [.ref p] ∧ (SqL Γ.K H p ys ∨ SqT Γ.K H p ys) ∧ ∀ l, H l = none → Q (.ref l) (upd H l (.lst ys))) := by rw [← h.K]; exact call_list_of
    exact pe_callTy hc (h.gl hg) (by rw [h.mg]; exact hm) (by decide +kernel) (pa_cons (pa X h) pa_nil (hs _)) (by decide) (by decide) (hs _) rfl
  · have fin : ∀ {xs : List V} {ds : List D}, Rps (Nx M ρ1 σ) Γ.K H1 ds xs → Q' ds ρ1 → ∀ l, H1 l = none → Q (.ref l) (upd H1 l (.lst xs)) := fun {xs ds} r q p hp =>
      k _ ρ1 p _ _ q (R1.grow (M.fresh _ _ _ R1.inv hp) (Ex.new hp)) (e1.trans (Ex.new hp)) o1 (Nw.back e1 (fun y => M.nfree _ _ R1.inv y hp) (.of hp)) upd_same (R1.new hp) (r.tr (tr_new hp)) (r.tr fun c o n z wt => ⟨fun y => y.elim n (fun y => by (rw [y, hp] at z; cases z)), by rw [upd_ne (ne_of_none z hp)]; exact z⟩) (R1.av (.of hp) (Ex.new hp))
    cases r1 with
    | lst qq r => exact ⟨_, _, rfl, .inl qq.sq, fin r q1⟩
    | tup qq r => exact ⟨_, _, rfl, .inr qq.sq, fin r q1⟩
    | _ => exact (show False from q1).elim
/-! ### f(), no argument -/
end
end DL
end

section
set_option Elab.async false
set_option linter.all false
set_option maxRecDepth 100000
set_option maxHeartbeats 5000000
namespace DL
open PySem L2 PyProof.Rows
section
variable {Γ : Ga} {X : Cx} {K : PySem.W.Frag} {M : Mt K} {H0' : Hp} {PX : XP} {a b c e e2 : Expr} {es : List Expr} {Ta Tb Tc T : TD} {TA : TDA} {pos : Pos} {E : XR} {H0 H H' : Hp} {ρ ρ' : En} {σ σ' : L2.St} {st : Stmt}
/-! ### a field -/
def TFld (C : Addr) (f : Str) (T : TD) : TD := fun ρ Q X => T ρ (fun d ρ1 => match d with
  | .ins C' fs => C' = C ∧ (match fs.lookup f with | some d => Q d ρ1 | none => False)
  | _ => False) X
theorem de_fld {C : Addr} {f : Str} (cl : Cls Γ.K C) (na : NoAttr Γ.K C f) (ha : DEx Γ a Ta) (hab : ∀ env : Env, attributeBase a f env (eval a env) = eval a env := by intro _; rfl) : DEx Γ (.Attribute a f pos) (TFld C f Ta) := by
  obtain ⟨t, pa, sa⟩ := ha
  refine ⟨tFld Γ.K t f, fun X h => by rw [← h.K]; exact pe_fld (pa X h) (hab _), fun M H0 ρ σ H Q Q' PX R L q k => sa M H0 ρ σ H _ _ PX R L q fun d ρ1 v H1 q1 R1 e1 o1 r1 => ?_⟩
  cases r1 with
  | ins n h1 r =>
    obtain ⟨rfl, q1⟩ := q1
    split at q1
    · rename_i d ed
      obtain ⟨v, ev, rv⟩ := r.lookup ed
      exact ⟨_, _, _, _, v, rfl, h1, cl, na, ev, k d ρ1 v H1 q1 R1 e1 o1 rv⟩
    · exact q1.elim
  | _ => exact (show False from q1).elim
/-! ### isinstance(x, C), x one of C's -/
structure IcOk (K : PySem.W.Frag) (C : Addr) : Prop where
  (cl : Cls K C) (ha : PySem.W.findIn K (.ref C) "__class__" = some (some (.builtin "object.__class__"))) (hn : PySem.W.specialIn K (.builtin "object.__class__") "__get__" = some (some (.builtin "getset_descriptor.__get__"))) (htk : PySem.W.takesIn K (.builtin "object.__class__") = some true) (hm : PySem.W.mroIn K C (.type "object") = some true)
def gIsC (C : Addr) : List D → (D → Prop) → Prop := fun ds P => match ds with
  | [.ins C1 _, .ref C2] => C1 = C ∧ C2 = C ∧ P (.bl true)
  | _ => False
theorem kit_self {K : PySem.W.Frag} {C : Addr} : PySem.W.kitOne K (.ref C) (.ref C) = some true := by
  unfold PySem.W.kitOne
  rw [if_pos (by simp)]
theorem simc_isC {C : Addr} (i : IcOk K C) : SimC K (rIsi K) (gIsC C) := fun M N H vs ds Q P hi _ _ r h k => by
  unfold gIsC at h
  split at h
  · obtain ⟨rfl, rfl, h⟩ := h
    cases r with
    | cons r rr =>
      cases rr with
      | cons r2 rr =>
        cases r2
        cases rr
        cases r with
        | ins n h1 r => exact ⟨_, _, _, _, _, rfl, .own _, .base (.ins h1 i.cl i.ha i.hn i.htk i.hm), kit_self, k _ _ H h hi Ex.refl (.bl _)⟩
  · exact h.elim
theorem de_isC {C : Addr} {p : Pos} (i : IcOk Γ.K C) (ha : DAx Γ [a, b] TA) (hg : GlB Γ "isinstance") (hm : Γ.mg "isinstance" = none) (he : ∀ env : Env, starEach [a, b] env = (false, eval a env) :: starEach [b] env := by intro _; rfl) (hpl : ∀ env : Env, (backTo pos (starEach [b] env)).any (·.1) = false := by intro _; rfl) :
    DEx Γ (.Call (.Name "isinstance" p) [a, b] [] pos) (TCB (gIsC C) TA) :=
  de_callB (fun X h => by rw [← h.K]; exact call_isi) (simc_isC i) ha hg hm (by decide +kernel) (by decide) (by decide) he hpl
end
/-! ### how the transformers are read -/
theorem env0_one (n : Nat) (d : D) : env0 (n + 1) [d] = some (.sh d) :: List.replicate n none := rfl
end DL
namespace DL
open PySem L2
/-! ### equality of flat data -/
def okC (cs : List Nat) : Bool := cs.all fun c => decide (c < 1114112)
theorem okD_str {cs : List Nat} (h : okC cs = true) : okD (.str cs) = true := by
  show PySem.SeqAt.shaped (.str (S cs)) = true
  have e : PySem.PyData.canLay0 (.str (S cs)) = true := by
    show PyData.strOk (S cs) = true
    unfold PyData.strOk
    have : (S cs).cps = cs.toArray := rfl
    rw [this, ← h]
    unfold okC
    simp
  unfold PySem.SeqAt.shaped
  rw [e]
  rfl
theorem okD_int {i : Int} : okD (.int i) = true := rfl
theorem okD_bl {i : Bool} : okD (.bl i) = true := rfl
theorem okD_non : okD .non = true := rfl
theorem eqD_int {i j : Int} : eqD (.int i) (.int j) = (i == j) := rfl
theorem eqD_str {i j : List Nat} : eqD (.str i) (.str j) = (i == j) := S_beq i j
theorem subT_one (c : Nat) (a : List Nat) : subT [c] a = decide (c ∈ a) := PySem.StrLaws.found_one (S a) c
theorem gAll_lst {f : List Bool → Bool} {xs : List D} {bs : List Bool} {P : D → Prop} (h : boolsOf xs = some bs) (p : P (.bl (f bs))) : gAll f [.lst xs] P := by
  show (match boolsOf xs with | some bs => P (.bl (f bs)) | none => False)
  rw [h]
  exact p
abbrev endsOf (S : DL.Spec) (row : Addr) (ds : List D) : DE := { nx := fun _ => S.post row ds .non, rt := S.post row ds, bk := fun _ => False, ct := fun _ => False }
abbrev fnS (pre : List D → Prop) (f : List D → D) : DL.Spec := { pre := fun _ => pre, post := fun _ ds r => r = f ds }
end DL
end

section
set_option Elab.async false
set_option linter.all false
set_option maxRecDepth 100000
set_option maxHeartbeats 5000000
namespace DL
open PySem L2 PyProof.Rows
/-! ### == and != of two of a class with a written __eq__ -/
/-- a written namespace, read -/
theorem ns_at {K : PySem.W.Frag} {h : Heap} {N : Addr} {mN : Str → Option Value} {n : Str} {v : Value} (X : K.In h) (G : h.Ns N mN) (e : PySem.W.nsIn K N n = some (some v)) : mN n = some v := by
  obtain ⟨ob, ents, used, there, dat, _, found⟩ := G
  rw [← found n]
  cases lk : K.lookup N with
  | none =>
    rw [PySem.W.nsIn, lk] at e
    cases e
  | some z =>
    have same : z = ob := Option.some.inj ((X N z lk).symm.trans there)
    subst same
    rcases z with ⟨zc, zd, zt, zs⟩
    have dat : zt = .dict ents used := dat
    subst dat
    rw [PySem.W.nsIn, lk] at e
    have z : ∀ r : Option DictEntry, (match r with | some q => some (some q.val) | none => if ents.toList.any (·.refKey) then none else some none) = some (some v) → r.map (·.val) = some v := fun r hr => by
      cases r with
      | some q => exact Option.some.inj hr
      | none =>
        cases c : ents.toList.any (·.refKey) with
        | true => simp [c] at hr
        | false => simp [c] at hr
    have y := z _ e
    rwa [Array.find?_toList] at y
section
variable {Γ : Ga} {X : Cx} {a b : Expr} {Ta Tb T : TD} {pos : Pos}
/-- the class at C has a written __eq__, at g, and no __ne__ -/
structure EqCls (K : PySem.W.Frag) (C g : Addr) : Prop where
  eq : PySem.W.findIn K (.ref C) "__eq__" = some (some (.ref g))
  fn : PySem.W.isFn K (.ref g) = true
  cls : ∃ (nm q : Str) (N : Addr) (bs : List Value) (hdct : Bool) (sn : List Str) (sub : List Value) (ab : Bool) (col : Option Bool) (dd : Option Addr) (k0 k1 k2 k3 k5 : Option Value) (newId : String),
    K.lookup C = some (excClassObj nm q C N bs [.type "object"] hdct sn sub ab col dd k0 k1 k2 k3 k5 newId) ∧ PySem.W.nsOkIn K N = true ∧ PySem.W.nsIn K N "__eq__" = some (some (.ref g)) ∧ PySem.W.nsIn K N "__ne__" = some none
structure EqOk (Γ : Ga) (k : Nat) (C : Addr) (S : DL.Spec) : Prop where
  ex : ∃ (g : Addr) (fd : FuncData) (ps : List Str), FnOk Γ.P Γ.w Γ.K Γ.mg Γ.base (L2.CX Γ.P Γ.w) k g fd ps (spD Γ.K 2 S) ∧ Binds Γ.K fd ps [] ∧ EqCls Γ.K C g
theorem EqOk.at {Γ' : Ga} {k : Nat} {C : Addr} {S : DL.Spec} (h : EqOk Γ k C S) (h1 : Γ'.P = Γ.P := by rfl) (h2 : Γ'.w = Γ.w := by rfl) (h3 : Γ'.K = Γ.K := by rfl) (h4 : Γ'.mg = Γ.mg := by rfl) (h5 : Γ'.base = Γ.base := by rfl) : EqOk Γ' k C S := by
  obtain ⟨g, fd, ps, h⟩ := h.ex
  exact ⟨g, fd, ps, by rw [h1, h2, h3, h4, h5]; exact h⟩
/-- the heap's word for it, which the library's rule for != asks -/
theorem EqCls.own {K : PySem.W.Frag} {C g x : Addr} {h : Heap} {o : Obj} (c : EqCls K C g) (X : K.In h) (hx : h.get? x = some o) (hc : o.cls = .ref C) : h.OwnEqNoNe x C g "object" [.type "object"] := by
  obtain ⟨nm, q, N, bs, hdct, sn, sub, ab, col, dd, k0, k1, k2, k3, k5, newId, lk, ok, he, hn⟩ := c.cls
  have G : h.Ns N (h.nsMap N) := .of_isNs (PySem.W.isNs_of_in X ok)
  obtain ⟨fo, hfo, hfc⟩ : ∃ fo, h.get? g = some fo ∧ fo.cls = .type "function" := by
    have w : PySem.W.typeIn K (.ref g) = some (.type "function") := beq_iff_eq.mp c.fn
    have w : (K.lookup g).map (·.cls) = some (.type "function") := w
    cases z : K.lookup g with
    | none => rw [z] at w; cases w
    | some fo => exact ⟨fo, X _ _ z, by rw [z] at w; exact Option.some.inj w⟩
  have hb : ∃ y, typeLookup (.type "object") ("__eq__" : Str) = pure y := ⟨_, PySem.F.cmp_object.eq.lookup⟩
  obtain ⟨y, hy⟩ := hb
  exact ⟨o, fo, nm, q, N, bs, hdct, sn, sub, ab, col, dd, k0, k1, k2, k3, k5, newId, _, y, hx, hc, X _ _ lk, G, ns_at X G he, hfo, hfc, PySem.F.mro_object, hy, PySem.W.nsMap_none_of_in X ok hn⟩
/-- what is asked of the two, what comes of it (neg: of !=) -/
def rEqI (K : PySem.W.Frag) (C : Addr) (S : DL.Spec) (neg : Bool) (E : XK) : R2 := fun x y H Q => ∃ (a b dx dy : Addr) (fs gs : List (Str × V)), x = .ref a ∧ y = .ref b ∧ H a = some (.ins C dx fs) ∧ H b = some (.ins C dy gs) ∧
  spD K 2 S [.ref a, .ref b] H (fun v H' => ∃ r, v = .bl r ∧ Q (.bl (if neg = true then !r else r)) H') E
/-- the written __eq__ at work within A -/
theorem own_eq_runs {k : Nat} {g p q : Addr} {fd : FuncData} {ps : List Str} {S : DL.Spec} {Ex : XK} {A : Around} {pins : List (Addr × Obj)} {s : Shared} {σ : L2.St} {H : Hp} {Q : VK} {P : Value → Shared → Prop}
    (F : FnOk X.prog X.w X.K X.mg X.base (L2.CX X.prog X.w) k g fd ps (spD X.K 2 S)) (bd : Binds X.K fd ps []) (leave : Passes (L2.CX X.prog X.w) X Ex) (I : Inv X pins σ H s) (room : Room k A) (e0 : Env0 X.prog X.w X.K X.mg X.base A X.stack s H)
    (sp : spD X.K 2 S [.ref p, .ref q] H (fun v H' => ∃ r, v = .bl r ∧ Q (.bl r) H') Ex) (out : ∀ (r : Bool) (H' : Hp) (s' : Shared), Inv X pins σ H' s' → Q (.bl r) H' → P (.bool r) s') :
    wpAny (model X.prog X.w) A (call (.ref g) [.ref p, .ref q]) P X.xe s := by
  have two : ([V.ref p, V.ref q] : List V).length = ps.length := F.len _ _ _ _ sp
  have args : BindsTo s fd ⟨[.ref p, .ref q], []⟩ (ps.zip [.ref p, .ref q]) := by simpa using bd s [.ref p, .ref q] I.kIn (by simpa using two)
  refine wpAny_call (codeAny_mono (F.run A X.stack s H _ [.ref p, .ref q] [.ref p, .ref q] _ Ex room e0 args (.cons rfl (.cons rfl .nil)) sp) fun res s' end_ => ?_)
  match res, end_ with
  | .error e, end_ => exact leave pins σ H s e s' I end_
  | .ok (.ret w), end_ =>
    obtain ⟨v, H', I', rel, r, ev, post⟩ := I.after end_
    subst ev
    cases rel
    exact out r H' s' I' post
theorem op_eqI {k : Nat} {C g : Addr} {fd : FuncData} {ps : List Str} {S : DL.Spec} {Ex : XK} (F : FnOk X.prog X.w X.K X.mg X.base (L2.CX X.prog X.w) k g fd ps (spD X.K 2 S)) (room : Room (k + 1) X.A) (bd : Binds X.K fd ps []) (c : EqCls X.K C g) (leave : Passes (L2.CX X.prog X.w) X Ex) :
    OpR X (compareOp .Eq) (rEqI X.K C S false Ex) := fun pins s σ H x y u v Q I rx ry ⟨p, q, dx, dy, fs, gs, ex, ey, hp, hq, sp⟩ => by
  subst ex; subst ey
  cases rx; cases ry
  obtain ⟨_, Jp, _⟩ := ins_get I.hok hp
  obtain ⟨_, Jq, _⟩ := ins_get I.hok hq
  obtain ⟨_, Jp, _⟩ := Jp.look
  obtain ⟨_, Jq, _⟩ := Jq.look
  obtain ⟨_, fr⟩ := I.fr
  exact PySem.W.cmp_K (op := .Eq) (tb := .ref C) room.units0 fr I.ok.mod.kin Jp Jq.type (by simp [PySem.W.notFirst]) c.eq c.fn
    (own_eq_runs F bd leave I (room.mono (Nat.le_succ _)) I.env0 sp fun r H' s' I' z => ⟨.bl r, H', I', rfl, z⟩)
theorem op_neI {k : Nat} {C g : Addr} {fd : FuncData} {ps : List Str} {S : DL.Spec} {Ex : XK} (F : FnOk X.prog X.w X.K X.mg X.base (L2.CX X.prog X.w) k g fd ps (spD X.K 2 S)) (room : Room (k + 1) X.A) (bd : Binds X.K fd ps []) (c : EqCls X.K C g) (leave : Passes (L2.CX X.prog X.w) X Ex) :
    OpR X (compareOp .NotEq) (rEqI X.K C S true Ex) := fun pins s σ H x y u v Q I rx ry ⟨p, q, dx, dy, fs, gs, ex, ey, hp, hq, sp⟩ => by
  subst ex; subst ey
  cases rx; cases ry
  obtain ⟨_, Jp, _⟩ := ins_get I.hok hp
  obtain ⟨_, Jq, _⟩ := ins_get I.hok hq
  obtain ⟨_, Jp, _⟩ := Jp.look
  obtain ⟨_, Jq, _⟩ := Jq.look
  have run := own_eq_runs (A := X.A.in1) (Q := fun z H' => ∃ r, z = .bl r ∧ Q (.bl !r) H') (P := fun v s' => ∃ r, v = .bool r ∧ EP X pins σ Q (.bool !r) s') F bd leave I room.in1 I.env0.in1
    (by
      obtain ⟨M, ds, h1, h2, h3, h4, h5, h6⟩ := sp
      exact ⟨M, ds, h1, h2, h3, h4, fun d v H' a b c e => by
        obtain ⟨r, er, post⟩ := h5 d v H' a b c e
        exact ⟨r, er, r, rfl, post⟩, h6⟩)
    fun r H' s' I' ⟨r', er, z⟩ => by
      cases er
      exact ⟨r, rfl, .bl !r, H', I', rfl, z⟩
  have word := c.own I.kIn Jp.at_ Jp.cls
  have other := Jq.at_
  have its := Jq.cls
  rcases s with ⟨hp, gn, dr, tk, os⟩
  exact compareOp_ne_ownEq PySem.F.cmp_object word other its (hu_of room) run
/-- x == y, x != y of two of C's -/
def TEqI (row : Addr) (S : DL.Spec) (C : Addr) (neg : Bool) (a b : TD) : TD := fun ρ Q X => a ρ (fun x ρ1 => b ρ1 (fun y ρ2 => match x, y with
  | .ins C1 fs, .ins C2 gs => C1 = C ∧ C2 = C ∧ S.pre row [.ins C1 fs, .ins C2 gs] ∧ (∀ r, S.post row [.ins C1 fs, .ins C2 gs] r → ∃ c, r = .bl c ∧ Q (.bl (if neg = true then !c else c)) ρ2) ∧ ∀ x, ¬ S.exc row [.ins C1 fs, .ins C2 gs] x
  | _, _ => False) X) X
theorem sim_eqI {K : PySem.W.Frag} {E : XR} {C : Addr} {S : DL.Spec} {neg : Bool} {ta tb : TE} (ha : Sim K E ta Ta) (hb : Sim K E tb Tb) : Sim K E (tOp (rEqI K C S neg E.E) ta tb) (TEqI E.row S C neg Ta Tb) := fun M H0 ρ σ H Q Q' PX R L q k =>
  ha M H0 ρ σ H _ _ PX R L q fun dx ρ1 x H1 q1 R1 e1 o1 rx => hb M H0 ρ1 σ H1 _ _ PX R1 L q1 fun dy ρ2 y H2 q2 R2 e2 o2 ry => by
    have rx2 := rx.tr (tr_own o2 e2)
    cases rx2 with
    | ins n1 h1 r1 =>
      cases ry with
      | ins n2 h2 r2 =>
        obtain ⟨rfl, rfl, hp, hq, hx⟩ := q2
        refine ⟨_, _, _, _, _, _, rfl, rfl, h1, h2, M.over (Own ρ2 σ) H2 R2.over, _, ⟨R2.inv, fun _ _ => rfl⟩, .cons (.ins n1 h1 r1) (.cons (.ins n2 h2 r2) .nil), rfl, by rw [show (M.over (Own ρ2 σ) H2 R2.over).row = M.row from rfl, L.1.1]; exact hp, fun d v H3 hd i3 e3 r3 => ?_, fun x cls dd H3 hd => absurd hd (by rw [show (M.over (Own ρ2 σ) H2 R2.over).row = M.row from rfl, L.1.1]; exact hx x)⟩
        obtain ⟨c, rfl, q3⟩ := hq d (by rw [← L.1.1]; exact hd)
        have ex := ex_over i3 e3
        cases r3
        exact ⟨c, rfl, k _ ρ2 _ H3 q3 (R2.grow i3.1 ex) ((e1.trans e2).trans ex) (fun q z => o1 q (o2 q z)) (.bl _)⟩
      | _ => exact (show False from q2).elim
    | _ => cases ry <;> exact (show False from q2).elim
theorem de_eqI {k : Nat} {C : Addr} {S : DL.Spec} (F : EqOk Γ k C S) (hk : k + 1 ≤ Γ.k) (ha : DEx Γ a Ta) (hb : DEx Γ b Tb) (hm : behindInMarks .Eq b = false := by first | exact nobehind _ (by decide) (by decide) | rfl) (hcm : Γ.cm = true := by rfl) : DEx Γ (.Compare a [.Eq] [b] pos) (TEqI Γ.E.row S C false Ta Tb) := by
  obtain ⟨g, fd, ps, F, bd, c⟩ := F.ex
  obtain ⟨ta, pa, sa⟩ := ha
  obtain ⟨tb, pb, sb⟩ := hb
  refine ⟨_, fun X h => pe_cmpR (r := rEqI Γ.K C S false Γ.E.E) ?_ (pa X h) (pb X h) hm, sim_eqI sa sb⟩
  rw [← h.K]
  exact op_eqI (by rw [h.prog, h.w, h.K, h.mg, h.base]; exact F) ((h.room hcm).mono hk) (by rw [h.K]; exact bd) (by rw [h.K]; exact c) (passes_of' h)
theorem de_neI {k : Nat} {C : Addr} {S : DL.Spec} (F : EqOk Γ k C S) (hk : k + 1 ≤ Γ.k) (ha : DEx Γ a Ta) (hb : DEx Γ b Tb) (hm : behindInMarks .NotEq b = false := by first | exact nobehind _ (by decide) (by decide) | rfl) (hcm : Γ.cm = true := by rfl) : DEx Γ (.Compare a [.NotEq] [b] pos) (TEqI Γ.E.row S C true Ta Tb) := by
  obtain ⟨g, fd, ps, F, bd, c⟩ := F.ex
  obtain ⟨ta, pa, sa⟩ := ha
  obtain ⟨tb, pb, sb⟩ := hb
  refine ⟨_, fun X h => pe_cmpR (r := rEqI Γ.K C S true Γ.E.E) ?_ (pa X h) (pb X h) hm, sim_eqI sa sb⟩
  rw [← h.K]
  exact op_neI (by rw [h.prog, h.w, h.K, h.mg, h.base]; exact F) ((h.room hcm).mono hk) (by rw [h.K]; exact bd) (by rw [h.K]; exact c) (passes_of' h)
theorem dt_eqI {k : Nat} {C : Addr} {S : DL.Spec} (F : EqOk Γ k C S) (hk : k + 1 ≤ Γ.k) (ha : DEx Γ a Ta) (hb : DEx Γ b Tb) (hm : behindInMarks .Eq b = false := by first | exact nobehind _ (by decide) (by decide) | rfl) (hcm : Γ.cm = true := by rfl) : DTx Γ (.Compare a [.Eq] [b] pos) (TTest (TEqI Γ.E.row S C false Ta Tb)) := by
  obtain ⟨g, fd, ps, F, bd, c⟩ := F.ex
  obtain ⟨ta, pa, sa⟩ := ha
  obtain ⟨tb, pb, sb⟩ := hb
  refine ⟨_, fun X h => pt_cmpR (r := rEqI Γ.K C S false Γ.E.E) ?_ (pa X h) (pb X h) hm, sim_test (sim_eqI sa sb)⟩
  rw [← h.K]
  exact op_eqI (by rw [h.prog, h.w, h.K, h.mg, h.base]; exact F) ((h.room hcm).mono hk) (by rw [h.K]; exact bd) (by rw [h.K]; exact c) (passes_of' h)
theorem dt_neI {k : Nat} {C : Addr} {S : DL.Spec} (F : EqOk Γ k C S) (hk : k + 1 ≤ Γ.k) (ha : DEx Γ a Ta) (hb : DEx Γ b Tb) (hm : behindInMarks .NotEq b = false := by first | exact nobehind _ (by decide) (by decide) | rfl) (hcm : Γ.cm = true := by rfl) : DTx Γ (.Compare a [.NotEq] [b] pos) (TTest (TEqI Γ.E.row S C true Ta Tb)) := by
  obtain ⟨g, fd, ps, F, bd, c⟩ := F.ex
  obtain ⟨ta, pa, sa⟩ := ha
  obtain ⟨tb, pb, sb⟩ := hb
  refine ⟨_, fun X h => pt_cmpR (r := rEqI Γ.K C S true Γ.E.E) ?_ (pa X h) (pb X h) hm, sim_test (sim_eqI sa sb)⟩
  rw [← h.K]
  exact op_neI (by rw [h.prog, h.w, h.K, h.mg, h.base]; exact F) ((h.room hcm).mono hk) (by rw [h.K]; exact bd) (by rw [h.K]; exact c) (passes_of' h)
end
end DL
end

section
set_option Elab.async false
set_option linter.all false
set_option maxRecDepth 100000
set_option maxHeartbeats 5000000
namespace DL
open PySem L2 PyProof.Rows
section
variable {Γ : Ga} {X : Cx} {K : PySem.W.Frag} {M : Mt K} {H0' : Hp} {PX : XP} {a b c e e2 : Expr} {es : List Expr} {Ta Tb Tc T : TD} {TA : TDA} {pos : Pos} {E : XR} {H0 H H' : Hp} {ρ ρ' : En} {σ σ' : L2.St} {st : Stmt}
/-! ### raise C(e), C an own class that keeps e in a field -/
/-- what a message is made of -/
def MsgV (v : V) : Prop := (∃ x : Str, v = .str x ∧ x.length ≤ 1000) ∨ ∃ i : Int, v = .int i ∧ i.natAbs.log2 < 1920 ∧ (PySem.Str.ofString (toString i)).length ≤ 1000
def tMk1 (C : Addr) (f : Str) (ta : L2.TA) : L2.St → Hp → XK → Prop := fun σ H Q => ta σ H fun vs H1 => ∃ v, vs = [v] ∧ MsgV v ∧ ∀ d, H1 d = none → Q (.ref C) (some d) (upd H1 d (.xd [(f, v)]))
structure ExcOk1 (Γ : Ga) (k : Nat) (x : Str) (C : Addr) (f : Str) : Prop where
  make : ∀ (X : Cx), X.prog = Γ.P → X.w = Γ.w → X.K = Γ.K → X.mg = Γ.mg → X.base = Γ.base → Room (k + 1) X.A → Gl X x → ∀ (a : Expr) (ta : L2.TA) (p pos : Pos), PA X [a] ta →
    starEach (a :: []) X.env = (false, eval a X.env) :: starEach [] X.env → (backTo pos (starEach [] X.env)).any (·.1) = false → PMk X (.Call (.Name x p) [a] [] pos) (tMk1 C f ta)
theorem ExcOk1.at {Γ' : Ga} {k : Nat} {x : Str} {C : Addr} {f : Str} (h : ExcOk1 Γ k x C f) (h1 : Γ'.P = Γ.P := by rfl) (h2 : Γ'.w = Γ.w := by rfl) (h3 : Γ'.K = Γ.K := by rfl) (h4 : Γ'.mg = Γ.mg := by rfl) (h5 : Γ'.base = Γ.base := by rfl) : ExcOk1 Γ' k x C f :=
  ⟨fun X e1 e2 e3 e4 e5 => h.make X (e1.trans h1) (e2.trans h2) (e3.trans h3) (e4.trans h4) (e5.trans h5)⟩
def msgD : D → Bool
  | .str cs => decide (cs.length ≤ 1000)
  | .int i => decide (i.natAbs.log2 < 1920) && decide ((PySem.Str.ofString (toString i)).length ≤ 1000)
  | _ => false
theorem Rp.msg {N : Addr → Prop} {d : D} {v : V} (r : Rp N K H d v) (h : msgD d = true) : MsgV v := by
  cases r with
  | str cs => exact .inl ⟨_, rfl, by rw [S_len]; exact of_decide_eq_true h⟩
  | int i =>
    have := Bool.and_eq_true_iff.mp (show (decide (i.natAbs.log2 < 1920) && decide ((PySem.Str.ofString (toString i)).length ≤ 1000)) = true from h)
    exact .inr ⟨i, rfl, of_decide_eq_true this.1, of_decide_eq_true this.2⟩
  | _ => cases h
def TRaise1 (C : Addr) (f : Str) (A : TDA) : TDS := fun De ρ X => A ρ (fun ds ρ1 => match ds with | [d] => msgD d = true ∧ X ⟨C, [(f, d)]⟩ | _ => False) X
theorem ds_raise1 {k : Nat} {x : Str} {C : Addr} {f : Str} {p pos2 : Pos} (F : ExcOk1 Γ k x C f) (hk : k + 1 ≤ Γ.k) (hg : GlB Γ x) (ha : DAx Γ [a] TA) (hs : ∀ env : Env, starEach (a :: []) env = (false, eval a env) :: starEach [] env := by intro _; rfl)
    (hpl : ∀ env : Env, (backTo pos (starEach [] env)).any (·.1) = false := by intro _; rfl) (hcm : Γ.cm = true := by rfl) : DS Γ (.Raise (some (.Call (.Name x p) [a] [] pos)) none pos2) (TRaise1 C f TA) := by
  obtain ⟨t, pa, sa⟩ := ha
  refine ⟨_, fun X h => ps_raise (h.calm hcm) h.takes (F.make X h.prog h.w h.K h.mg h.base ((h.room hcm).mono hk) (h.gl hg) a t p pos (pa X h) (hs _) (hpl _)), fun M H0 ρ σ H D0 D' PX R L k q => sa M H0 ρ σ H _ _ PX R L q fun ds ρ1 vs H1 q1 R1 e1 o1 r1 => ?_⟩
  split at q1
  · rename_i d
    obtain ⟨hm, q1⟩ := q1
    cases r1 with
    | cons r rr =>
      cases rr
      refine ⟨_, rfl, r.msg hm, fun dx hdx => L.2 _ _ _ _ q1 (R1.ex.trans (Ex.new hdx)) (M.fresh _ _ _ R1.inv hdx) ⟨rfl, .inr ⟨dx, _, by simp, rfl, fun z => M.nfree _ _ R1.inv z hdx, upd_same, .cons ((R1.toDom r).tr (tr_new hdx)) .nil⟩⟩⟩
  · exact q1.elim
/-! ### an object more, whose content stands, of whatever kind -/
def Mt.plusO {K} (M : Mt K) (q : Addr) (o : HO) (hq : ¬ M.dom q) (ho : NoTb o) : Mt K where
  dom := fun a => M.dom a ∨ a = q
  inv := fun H => M.inv H ∧ H q = some o
  row := M.row
  sdm := M.sdm
  sdom := fun a h => .inl (M.sdom a h)
  nsr := M.nsr
  rdom := .inl M.rdom
  rinv := fun H h => M.rinv H h.1
  rput := fun H ys h r => ⟨M.rput H ys h.1 r, by rw [upd_ne (fun z => hq (by rw [z]; exact M.rdom))]; exact h.2⟩
  fresh := fun H p o h hp => ⟨M.fresh H p o h.1 hp, by rw [upd_ne (ne_of_none h.2 hp)]; exact h.2⟩
  nfree := fun H p h hp => hp.elim (M.nfree H p h.1) fun e => by rw [e, h.2]; simp
  other := fun H p o u h hp hu mu => ⟨M.other H p o u h.1 (fun z => hp (.inl z)) hu mu, by rw [upd_ne (fun z => hp (.inr z.symm))]; exact h.2⟩
  tabs := M.tabs
  tinv := fun H h => M.tinv H h.1
  tput := fun H H' h x t => ⟨M.tput H H' h.1 x t, x _ _ h.2 ho.ne⟩
theorem fldv {C : Addr} {f : Str} {i : Nat} {fs : List (Str × D)} {v : D} {Q : D → En → Prop} {X : XP} (h : ρ[i]? = some (some (.sh (.ins C fs)))) (hl : fs.lookup f = some v) (q : Q v ρ) : TFld C f (TV i) ρ Q X := by
  unfold TFld TV
  rw [h]
  refine ⟨rfl, ?_⟩
  rw [hl]
  exact q
end
end DL
end

section
set_option Elab.async false
set_option linter.all false
set_option maxRecDepth 100000
set_option maxHeartbeats 5000000
namespace DL
open PySem L2 PyProof.Rows PySem.Calls
open PySem.W
/-! ### an exception class whose __init__ says super().__init__(..) and keeps its argument -/
/-! #### the text -/
def sA (a : Str) (p1 p2 : Pos) : Arguments := { posonlyargs := [], args := [{ arg := "self", annotation := none, pos := p1 }, { arg := a, annotation := none, pos := p2 }], vararg := none, kwonlyargs := [], kw_defaults := [], kwarg := none, defaults := [] }
def sB (a fl : Str) (fs : List Expr) (fp : Pos) (q1 q2 q3 q4 q5 r1 r2 r3 r4 : Pos) : List Stmt := [.Expr (.Call (.Attribute (.Call (.Name "super" q1) [] [] q2) "__init__" q3) [.JoinedStr fs fp] [] q4) q5, .Assign [.Attribute (.Name "self" r1) fl r2] (.Name a r3) r4]
/-- what the written part says of the class at C, and of its __init__, at fI: its argument is called a, its field too -/
structure SupTxt (P : Program) (K : Frag) (mg : Str → Option Value) (C fI : Addr) (x a : Str) (qual : Str) (fs : List Expr) (fp : Pos) (sc : Scope) : Prop where
  gC : mg x = some (.ref C)
  cls : ∃ nm q N bs bm sn sub ab col dd k0 k1 k2 k3 k5, K.lookup C = some (excClassObj nm q C N bs bm true sn sub ab col dd k0 k1 k2 k3 k5 "ValueError.__new__") ∧ HandSPX.refsVE bm = true
  sa : findIn K (.ref C) "__setattr__" = some (some (.builtin "object.__setattr__"))
  noN : findIn K (.ref C) a = some none
  iC : findIn K (.ref C) "__init__" = some (some (.ref fI))
  tC : typeIn K (.ref fI) = some (.type "function")
  kC : keepIn K (.ref C) = true
  exC : subIn K (.ref C) (.type "BaseException") = some true
  veC : subIn K (.ref C) (.type "ValueError") = some true
  tyC : typeIn K (.ref C) = some (.type "type")
  hdC : hasDictIn K C = true
  ini : ks_superIn K C C "__init__" = some (some (.builtin "ValueError.__init__"))
  own : mroIn K C (.ref C) = some true
  thr : nsIn K cStatics "thirdparty.any" = some none
  sup : mg "super" = none
  exi : ∃ bmB, ExcBaseFacts "ValueError" "ValueError.__new__" "ValueError.__init__" bmB ∧ excInitIn K C bmB "ValueError.__new__" = true
  top : (P.main.scope.names.lookup ("super" : Str)).isSome = false
  fn : ∃ (oc : Value) (od : Option Addr) (doc pm : Value) (an : Option Addr) (cda cc : Addr) (ct : Value) (osl : Array (Option Value)) (p1 p2 q1 q2 q3 q4 q5 r1 r2 r3 r4 : Pos) (ccl cl : Value) (cdd cld : Option Addr) (ccs csl : Array (Option Value)) (vs : Array Value) (file : Str) (tf : Tok),
    K.lookup fI = some ⟨oc, od, .func (fnX "__init__" qual (sA a p1 p2) (sB a a fs fp q1 q2 q3 q4 q5 r1 r2 r3 r4) sc [("__class__", cc)] .none .none doc pm an (.ref cda) ct), osl⟩ ∧ codeIn K (.ref cda) qual = true ∧
    K.lookup cda = some ⟨ccl, cdd, .fields vs, ccs⟩ ∧ vs[2]? = some (.str file tf) ∧ ((P.main.file : Str) == file) = true ∧ K.lookup cc = some ⟨cl, cld, .cell (some (.ref C)), csl⟩ ∧ (q3.endLine == q4.line) = true ∧
    ∀ (s : Shared) (u v : Value), BindsTo s (fnX "__init__" qual (sA a p1 p2) (sB a a fs fp q1 q2 q3 q4 q5 r1 r2 r3 r4) sc [("__class__", cc)] .none .none doc pm an (.ref cda) ct) ⟨[u, v], []⟩ [("self", u), (a, v)]
  kind : sc.kind = .function
  co : sc.isCoroutine = false
  gen : sc.isGenerator = false
  nocell : ∀ x ∈ sc.names, x.2 ≠ .cell
  ns : sc.names.lookup ("self" : Str) = some .local
  na : sc.names.lookup a = some .local
  nsup : sc.names.lookup ("super" : Str) = some .globalImplicit
  ncls : sc.names.lookup ("__class__" : Str) = some .free
  nas : (a == ("self" : Str)) = false
  nad : (a == ("__debug__" : Str)) = false
/-- what __init__ leaves of a fresh exception at x -/
structure SupEnd (h h' : Heap) (x C dx t1 : Addr) (a : Str) (v : Value) : Prop where
  keep : ∀ b o, b ≠ x → h.get? b = some o → h'.get? b = some o
  obj : h'.get? x = some { cls := .ref C, dict := some dx, data := .fields #[.ref t1, .none, .none, .none, .bool false, .none] }
  dbig : h.objs.size ≤ dx
  dne : dx ≠ x
  ns : h'.Ns1 dx (fun y => if y = a then some v else none)
section
variable {prog : Program} {w : World} {A : Around} {R : Result → Shared → Prop} {s : Shared} {K : Frag} {mg mb : Str → Option Value} {C fI : Addr} {x a qual : Str} {fs : List Expr} {fp : Pos} {sc : Scope}
theorem sup_init (T : SupTxt prog K mg C fI x a qual fs fp sc) {e t0 : Addr} {v : Value} (X : K.In s.heap) (G : s.heap.Ns mainGlobals mg) (Bn : s.heap.Ns builtinsNs mb) (hsb : mb "super" = some (.type "super")) (hlim : s.heap.NoLimit) (hx : s.heap.get? e = some (excObj C t0 none .none)) (hnx : K.lookup e = none) (hroom : A.depth < recursionLimit)
    (hfe : ∀ (A' : Around) (E : Value → Shared → Prop) (env : Env) (m : Str → Option Value) (s' : Shared) (Q : Value → Shared → Prop), env.scope = sc → s'.heap.Ns env.locals m → m a = some v → (∀ u tk, Q u { s' with toks := tk }) → wpAny (model prog w) A' (eval (.JoinedStr fs fp) env) Q E s')
    (hq : ∀ h' tk dx t1, SupEnd s.heap h' e C dx t1 a v → R (.ok (.ret .none)) { s with heap := h', toks := tk }) :
    codeAny (model prog w) A (.call (.ref fI) ⟨[.ref e, v], []⟩) R s := by
  obtain ⟨oc, od, doc, pm, an, cda, cc, ct, osl, p1, p2, q1, q2, q3, q4, q5, r1, r2, r3, r4, ccl, cl, cdd, cld, ccs, csl, vs, file, tf, ho, hcd, hcda, hvs, hfile, hcc, hline, hbi⟩ := T.fn
  rcases T.cls with ⟨nm, q, N, bs, bm, sn, sub, ab, col, dd, k0, k1, k2, k3, k5, hC, hbm⟩
  have hcl : clsIn K C = some { name := nm, bases := bs, mro := .ref C :: bm, ns := N, qualname := q, hasDict := true, slotNames := sn, subclasses := sub, abstract := ab, collection := col, hasDel := false } := by unfold clsIn; rw [hC] <;> rfl
  refine ks_codeAny_call_defAt (fd := fnX "__init__" qual (sA a p1 p2) (sB a a fs fp q1 q2 q3 q4 q5 r1 r2 r3 r4) sc [("__class__", cc)] .none .none doc pm an (.ref cda) ct) (body := sB a a fs fp q1 q2 q3 q4 q5 r1 r2 r3 r4) (binds := [("self", .ref e), (a, v)])
    hroom (X _ _ ho) rfl hlim (codeRec_of X hcd) rfl (hbi _ _ _) T.nocell ?_ (fun h₁ hns k => ?_) T.co T.gen T.kind
  · intro y hy
    rcases List.mem_cons.mp hy with z | hy
    · rw [z]; exact T.ns
    · rw [List.mem_singleton.mp hy]; exact T.na
  obtain ⟨hp, g, d, tk, os⟩ := s
  have X₁ : K.In h₁ := X.keeps k
  have hx₁ := k _ _ hx
  have hself : (([("self", Value.ref e), (a, v)] : List (Str × Value)).reverse.lookup ("self" : Str)) = some (.ref e) := by
    have z : (("self" : Str) == a) = false := by
      have := T.nas
      rw [beq_eq_false_iff_ne] at this ⊢
      exact fun w => this w.symm
    show List.lookup ("self" : Str) [(a, v), ("self", Value.ref e)] = _
    rw [List.lookup_cons, z]
    simp [List.lookup]
  have harg : (([("self", Value.ref e), (a, v)] : List (Str × Value)).reverse.lookup a) = some v := by
    show List.lookup a [(a, v), ("self", Value.ref e)] = _
    simp [List.lookup]
  obtain ⟨oD, hD1, hD2⟩ : ∃ oD, h₁.get? C = some oD ∧ ∃ cd, oD.data = .cls cd := ⟨_, X₁ _ _ hC, _, rfl⟩
  obtain ⟨cdD, hD2⟩ := hD2
  have exne : e ≠ C := fun z => by
    rw [z, X₁ _ _ hC] at hx₁
    cases hx₁
  have hint : ∀ L : Addr, interactive (callEnv (fnX "__init__" qual (sA a p1 p2) (sB a a fs fp q1 q2 q3 q4 q5 r1 r2 r3 r4) sc [("__class__", cc)] .none .none doc pm an (.ref cda) ct) L fI) = false := fun L => by
    unfold interactive
    show _ = false
    simp [callEnv, newEnv, T.kind]
  have he : ∀ env : Env, eval (.Call (.Attribute (.Call (.Name "super" q1) [] [] q2) "__init__" q3) [.JoinedStr fs fp] [] q4) env = (do
      let ov ← attributeBase (.Call (.Name "super" q1) [] [] q2) "__init__" env (eval (.Call (.Name "super" q1) [] [] q2) env)
      standAt q3.atName
      let (f, first) ← holding [ov] (getMethod ov "__init__" (L2.plainOf (.Call (.Name "super" q1) [] [] q2) env))
      callWith q4 f first (backTo q4 (starEach [.JoinedStr fs fp] env)) []) := fun env => by
    rw [arm_eval_Call]
    simp only [L2.mcall_line (show methodCallForm (([Expr.JoinedStr fs fp] : List Expr).length + ([] : List Keyword).length) (backTo q4 (starEach [Expr.JoinedStr fs fp] env)) (backToKw q4 (keywordEach [] env)) = true from rfl) hline]
    rfl
  refine ks_wpAt_execs_cons (ks_wpAt_Expr_any (ks_wpAt_MethodCall (ks_wpAt_super_base (f := fI) T.nsup T.ncls (by decide) rfl (X₁ _ _ ho) rfl rfl rfl (X₁ _ _ hcda) rfl hvs hfile T.top ?_) (he _)) (hint _) rfl)
  refine ks_loadName_global T.kind T.nsup (loadGlobal_builtin (G.at (fun o q => k _ o q)) T.sup (Bn.at (fun o q => k _ o q)) hsb ⟨rfl, ?_⟩)
  refine wpAny_loadName_free T.kind T.ncls rfl ⟨_, X₁ _ _ hcc, rfl⟩ ?_
  refine wpAny_loadName_local T.kind T.ns hns hself ?_
  refine ks_wpAny_isType_cls hD1 hD2 (And.intro rfl ?_)
  refine ks_wpAny_call_super hD1 hD2 hx₁ rfl (fun c z => nomatch z) (looks_mroIn X₁ T.own) (fun h₂ hso k₂ => ?_)
  have X₂ : K.In h₂ := X₁.keeps k₂
  have hx₂ := k₂ _ _ hx₁
  have I₂ : PySem.W.InstAt h₂ e (excObj C t0 none .none) C none := ⟨hx₂, rfl, rfl, trivial⟩
  have hini := T.ini
  unfold ks_superIn at hini
  rw [hcl] at hini
  have hveI : Looks (model prog w) h₂ (isInstance (.ref e) (.type "ValueError")) true := I₂.type.andThen (looks_subIn X₂ T.veC)
  refine kxs_getMethod kxs_ValueError hso (looks_opaque X₂ T.thr) (l₀ := .ref C :: bm) ?_ rfl X₂ hini hveI exne (by decide) ?_
  · exact fun A Q E s k q => wpAny_bind ((looks_clsIn X₂ hcl) A _ E s k (wpAny_pure q))
  have hxu : h₂.objs.size ≠ e := Nat.ne_of_gt (Heap.lt_size hx₂)
  have hu₃ : (h₂.push (kxs_mw "ValueError.__init__" e)).get? h₂.objs.size = some (kxs_mw "ValueError.__init__" e) := Heap.get?_push_at rfl rfl
  have k₃ : ∀ b o, h₂.get? b = some o → (h₂.push (kxs_mw "ValueError.__init__" e)).get? b = some o := fun b o q => Heap.get?_push_of_some _ q
  have X₃ : K.In (h₂.push (kxs_mw "ValueError.__init__" e)) := X₂.keeps k₃
  show wpAny _ _ (callWith q4 (.ref h₂.objs.size) [] (backTo q4 (starEach [.JoinedStr fs fp] _)) []) _ _ _
  refine kxs_callWith (i := "ValueError.__init__") (x := e) rfl ?_
  refine evalArgs_plain (spliced_cons ?_)
  refine hfe _ _ _ _ _ _ rfl (hns.at fun o q => k₃ _ _ (k₂ _ _ q)) harg fun u tk' => ?_
  refine spliced_nil ⟨hu₃, ?_⟩
  obtain ⟨bmB, FB, hexi⟩ := T.exi
  -- the library's rule for the bound __init__, told over the entry's heap without the exception
  have hLe : hp.objs.size ≠ e := Nat.ne_of_gt (Heap.lt_size hx)
  have up : ∀ b o, hp.get? b = some o → (h₂.push (kxs_mw "ValueError.__init__" e)).get? b = some o := fun b o z => k₃ b o (k₂ b o (k b o z))
  have ground : K.In (hideAll hp [e]) := fun b o z => hideAll_get [e] (X b o z) fun m => by
    rw [List.mem_singleton.mp m, hnx] at z
    cases z
  have hns₃ := hns.at (h' := h₂.push (kxs_mw "ValueError.__init__" e)) fun o z => k₃ _ _ (k₂ _ _ z)
  have fr : Fr (hideAll hp [e]) hp.objs.size (h₂.push (kxs_mw "ValueError.__init__" e)) _ := ⟨hns₃, fun b o z => up b o (of_hideAll [e] z), Nat.le_of_eq (hideAll_size [e] hp)⟩
  have newU : hp.objs.size < h₂.objs.size := Nat.lt_of_lt_of_le hns.lt (by
    rcases Nat.lt_or_ge h₂.objs.size h₁.objs.size with z | z
    · exact absurd (Heap.lt_size hso) (Nat.not_lt.mpr (Nat.le_of_lt z))
    · exact z)
  have gone : (hideAll hp [e]).get? h₂.objs.size = none := by
    cases z : (hideAll hp [e]).get? h₂.objs.size with
    | none => rfl
    | some o => exact absurd (Heap.lt_size (of_hideAll [e] z)) (Nat.not_lt.mpr (Nat.le_of_lt newU))
  have ledger : News (hideAll hp [e]) hp.objs.size (h₂.push (kxs_mw "ValueError.__init__" e)) [(h₂.objs.size, kxs_mw "ValueError.__init__" e), (e, excObj C t0 none .none)] := fun b m => by
    rcases List.mem_cons.mp m with z | m
    · subst z
      exact ⟨hu₃, Nat.ne_of_gt newU, gone⟩
    · rw [List.mem_singleton.mp m]
      exact ⟨k₃ _ _ hx₂, hLe.symm, hideAll_none [e] (List.mem_singleton.mpr rfl)⟩
  refine kxs_call fr ground ledger FB hexi List.mem_cons_self (.tail hxu (.head fun b m => nomatch m)) (by show 1 ≤ sizeLine; decide) fun t1 h₄ fr₄ ledger₄ _ => ?_
  have hx₄ : h₄.get? e = some (excObj C t1 none .none) := (ledger₄ (e, excObj C t1 none .none) (by simp)).1
  have k₄ : ∀ b o, b ≠ e → hp.get? b = some o → h₄.get? b = some o := fun b o ne z => fr₄.keep b o (hideAll_get [e] z fun m => ne (List.mem_singleton.mp m))
  have X₄ : K.In h₄ := ground.keeps fr₄.keep
  have hns₄ := fr₄.ns
  show PySem.wpAt _ _ _ (execs _ _) _ _ _
  refine ks_wpAt_execs_cons (ks_wpAt_Assign_Attr (wpAt_of_wpAny (wpAny_Name (wpAny_loadName_local T.kind T.na hns₄ harg (wpAny_Name (wpAny_loadName_local T.kind T.ns hns₄ hself ?_) (by decide))) T.nad)) rfl)
  refine set_plain X₄ (ox := excObj C _ none .none) (od := none) ⟨hx₄, rfl, rfl, trivial⟩ T.sa ?_
  refine HandSPX.exc_osa X₄ hx₄ hcl (show HandSPX.refsVE (.ref C :: bm) = true from hbm) rfl T.noN (fun h₅ tk₅ dx k₅ dn dne hx₅ hn₅ => ?_)
  show PySem.wpAt _ _ _ (execs _ _) _ _ _
  have big : hp.objs.size ≤ h₄.objs.size := Nat.le_of_lt hns₄.lt
  exact wpAt_of_wpAny (wpAny_execs_nil (hq h₅ tk₅ dx _ ⟨fun b o hb q => k₅ b o hb (k₄ b o hb q), hx₅, Nat.le_trans big dn, dne, hn₅⟩))
end
end DL
end

section
set_option Elab.async false
set_option linter.all false
set_option maxRecDepth 100000
set_option maxHeartbeats 5000000
namespace DL
open PySem L2 PyProof.Rows PySem.Calls
open PySem.W
/-- a made exception of the class -/
structure SupMade (h h' : Heap) (e C d : Addr) (a : Str) (v : Value) : Prop where
  keep : ∀ b o, h.get? b = some o → h'.get? b = some o
  new : h.objs.size ≤ e
  obj : ∃ oe vs, h'.get? e = some oe ∧ oe.cls = .ref C ∧ oe.dict = some d ∧ oe.data = .fields vs ∧ vs[1]? = some .none
  dbig : h.objs.size ≤ d
  dne : d ≠ e
  ns : h'.Ns1 d (fun y => if y = a then some v else none)
section
variable {prog : Program} {w : World} {A : Around} {R : Result → Shared → Prop} {s : Shared} {K : Frag} {mg mb : Str → Option Value} {C fI : Addr} {x a qual : Str} {fs : List Expr} {fp : Pos} {sc : Scope}
theorem sup_made (T : SupTxt prog K mg C fI x a qual fs fp sc) {v : Value} (X : K.In s.heap) (G : s.heap.Ns mainGlobals mg) (Bn : s.heap.Ns builtinsNs mb) (hsb : mb "super" = some (.type "super")) (hlim : s.heap.NoLimit) (hroom : A.depth + 1 < recursionLimit)
    (hfe : ∀ (A' : Around) (E : Value → Shared → Prop) (env : Env) (m : Str → Option Value) (s' : Shared) (Q : Value → Shared → Prop), env.scope = sc → s'.heap.Ns env.locals m → m a = some v → (∀ u tk, Q u { s' with toks := tk }) → wpAny (model prog w) A' (eval (.JoinedStr fs fp) env) Q E s')
    (hq : ∀ h' tk e d, SupMade s.heap h' e C d a v → R (.ok (.ret (.ref e))) { s with heap := h', toks := tk }) :
    codeAny (model prog w) A (.call (.ref C) ⟨[v], []⟩) R s := by
  rcases T.cls with ⟨nm, q, N, bs, bm, sn, sub, ab, col, dd, k0, k1, k2, k3, k5, hC, hbm⟩
  obtain ⟨hp, g, dr, tk, os⟩ := s
  have k : ∀ b o, hp.get? b = some o → ((hp.push (W.kdv_tup [v])).push (HandSPX.excO C hp.objs.size)).get? b = some o := fun b o e => Heap.get?_push_of_some _ (Heap.get?_push_of_some _ e)
  have hget : ((hp.push (W.kdv_tup [v])).push (HandSPX.excO C hp.objs.size)).get? (hp.objs.size + 1) = some (HandSPX.excO C hp.objs.size) := by heap_get
  have hnx : K.lookup (hp.objs.size + 1) = none := by
    cases e : K.lookup (hp.objs.size + 1) with
    | none => rfl
    | some o =>
      have z : hp.get? (hp.objs.size + 1) = some o := X _ _ e
      exact absurd (Nat.lt_of_succ_lt (Heap.lt_size z)) (Nat.lt_irrefl _)
  refine HandSPX.call_own PySem.F.excBase_ValueError (fun X => HandSPX.refsVE_contains X bm hbm) (X _ _ hC) (looks_findIn X T.iC) (fun self => bind_fn X self T.tC) (by show 1 ≤ sizeLine; decide) ?_
  refine sup_init (s := ⟨(hp.push (W.kdv_tup [v])).push (HandSPX.excO C hp.objs.size), g, dr, tk, os⟩) T (X.keeps k) (G.at fun o q => k _ _ q) (Bn.at fun o q => k _ _ q) hsb (hlim.keeps k) hget hnx ?_ hfe fun h' tk' dx t1 ⟨k', hx, dn, dne, hns⟩ => ?_
  · show A.depth + 1 < recursionLimit
    exact hroom
  · have old : ∀ b o, hp.get? b = some o → h'.get? b = some o := fun b o e => k' b o (Nat.ne_of_lt (Nat.lt_succ_of_lt (Heap.lt_size e))) (k b o e)
    have z : hp.objs.size + 1 + 1 ≤ dx := by
      first
        | exact dn
        | (have q := dn; rw [Heap.size_push, Heap.size_push] at q; exact q)
    exact ⟨rfl, hq h' tk' (hp.objs.size + 1) dx ⟨old, Nat.le_succ _, ⟨_, _, hx, rfl, rfl, rfl, rfl⟩, Nat.le_trans (Nat.le_trans (Nat.le_succ _) (Nat.le_succ _)) z, dne, hns⟩⟩
end
theorem relO_one {v : V} {v' : Value} (r : RelV v v') (a f : Str) : RelO (List.lookup f [(a, v)]) (if f = a then some v' else none) := by
  by_cases hw : f = a
  · subst hw
    rw [if_pos rfl]
    have q : List.lookup f [(f, v)] = some v := by simp [List.lookup]
    rw [q]
    exact r
  · rw [if_neg hw]
    have qw : (f == a) = false := by simpa using hw
    have q2 : List.lookup f [(a, v)] = none := by simp [List.lookup, qw]
    rw [q2]
    trivial
section
variable {X : Cx} {C fI : Addr} {x f qual : Str} {fs : List Expr} {fp : Pos} {sc : Scope}
theorem pmk_sup {e : Expr} {ta : L2.TA} {p pos : Pos} {k : Nat} (T : SupTxt X.prog X.K X.mg C fI x f qual fs fp sc) (hr : Room (k + 1) X.A) (ha : PA X [e] ta) (hg : Gl X x) (hd : (x == ("__debug__" : Str)) = false)
    (hfe : ∀ (v : V) (u : Value), MsgV v → RelV v u → ∀ (A' : Around) (E : Value → Shared → Prop) (env : Env) (m : Str → Option Value) (s' : Shared) (Q : Value → Shared → Prop), env.scope = sc → s'.heap.Ns env.locals m → m f = some u → (∀ u tk, Q u { s' with toks := tk }) → wpAny (model X.prog X.w) A' (eval (.JoinedStr fs fp) env) Q E s')
    (he : starEach (e :: []) X.env = (false, eval e X.env) :: starEach [] X.env) (hpl : (backTo pos (starEach [] X.env)).any (·.1) = false) :
    PMk X (.Call (.Name x p) [e] [] pos) (tMk1 C f ta) := by
  intro pins s σ H Q I h
  refine wpAny_Call_Name_kw (ld_glob I hg T.gC ?_ hd)
  refine PySem.W.callWith_K (h₀ := X.base) I.ok.mod.kin T.kC (thn (ha.run pos pins s σ H _ I h) fun us s1 hh => ?_) he hpl
  obtain ⟨vs, H1, I1, r1, v, ev, mv, q1⟩ := hh
  subst ev
  refine ⟨I1.kIn, ?_⟩
  cases r1 with
  | cons rv rn =>
    rename_i v' us'
    cases rn
    show wpAny _ _ (call (.ref C) [v']) _ _ _
    have hlim := I1.nolimit
    obtain ⟨mb, b1, b2⟩ := I1.mod.blt
    have hG := I1.mod.glob.keeps I1.bk
    have hB := b1.keeps I1.bk
    have hsb : mb "super" = some (.type "super") := (b2 "super" (by decide)).trans (by decide +kernel)
    obtain ⟨hp, g, d, tk, os⟩ := s1
    refine wpAny_call (sup_made T I1.kIn hG hB hsb hlim (by have := hr.dp; omega) (hfe v v' mv rv) fun h' tk' e d M => ?_)
    show MkP X pins σ Q (.ref e) ⟨h', g, _, tk', os⟩
    obtain ⟨oe, fv, hoe, hc, hd, hdat, h1⟩ := M.obj
    have hns := M.ns
    obtain ⟨G', g1, g2⟩ := restrict h' fun b => decide (b ≠ e)
    have gk : ∀ b, b ≠ e → G'.get? b = h'.get? b := fun b hb => g1 b (decide_eq_true hb)
    have ge : G'.get? e = none := g2 e (by simp)
    have old : ∀ b o, hp.get? b = some o → G'.get? b = some o := fun b o q => (gk b (Nat.ne_of_lt (Nat.lt_of_lt_of_le (Heap.lt_size q) M.new))).trans (M.keep b o q)
    have ob : ObjOk X.prog X.w (upd H1 d (.xd [(f, v)])) G' d (.xd [(f, v)]) :=
      ⟨_, hns.at (fun o q => (gk d M.dne).trans q), fun y => relO_one rv f y⟩
    have J : Inv X pins σ (upd H1 d (.xd [(f, v)])) ⟨G', g, _, tk', os⟩ := I1.laid (t' := tk') old M.dbig ob
    refine ⟨e, oe, fv, ⟨G', g, _, tk', os⟩, _, .ref C, some d, rfl, J, fun b o q => ?_, ge, hoe, ⟨hc, hd⟩, hdat, h1, ?_, rfl, I1.bare, raises_own T.exC T.tyC, q1 d (I1.hok.fresh M.dbig)⟩
    · by_cases hb : b = e
      · have q' : G'.get? b = some o := q
        rw [hb, ge] at q'; cases q'
      · exact (gk b hb).symm.trans q
    · rw [upd_ne (Ne.symm M.dne)]
      exact I1.hok.fresh M.new
end
theorem Str_len_app (x y : Str) : (x ++ y).length = x.length + y.length := by
  show (x.cps ++ y.cps).size = _
  rw [Array.size_append]
  rfl
/-- f'..{a}' -/
theorem fe_ok2 {prog : Program} {w : World} {a : Str} {s1 : Str} {j1 : Nat} {z1 z2 z3 fp : Pos} {sc : Scope} (hk : sc.kind = .function) (hl : sc.names.lookup a = some .local) (hd : (a == ("__debug__" : Str)) = false) (l1 : s1.length ≤ 1000)
    (v : V) (u : Value) (mv : MsgV v) (rv : RelV v u) (A' : Around) (E : Value → Shared → Prop) (env : Env) (m : Str → Option Value) (s' : Shared) (Q : Value → Shared → Prop) (hs : env.scope = sc) (hn : s'.heap.Ns env.locals m) (hm : m a = some u) (hQ : ∀ u tk, Q u { s' with toks := tk }) :
    wpAny (model prog w) A' (eval (.JoinedStr [.Constant (.str s1) j1 z1, .FormattedValue (.Name a z2) (-1) none z3] fp) env) Q E s' := by
  subst hs
  have b0 : (Str.empty : Str).length = 0 := rfl
  have big : ∀ n : Nat, n ≤ 3000 → n ≤ sizeLine := fun n h => Nat.le_trans h (by decide)
  refine wpAny_JoinedStr ?_
  have e0 : evalEach [Expr.Constant (.str s1) j1 z1, .FormattedValue (.Name a z2) (-1) none z3] env = [eval (.Constant (.str s1) j1 z1) env, eval (.FormattedValue (.Name a z2) (-1) none z3) env] := by first | rfl | simp [evalEach]
  rw [e0]
  show wpAny _ _ (eval (.Constant (.str s1) j1 z1) env) _ _ _
  refine wpAny_Constant_str ?_
  refine ⟨s1, _, rfl, by rw [Str_len_app, b0]; exact big _ (by omega), ?_⟩
  show wpAny _ _ (eval (.FormattedValue (.Name a z2) (-1) none z3) env) _ _ _
  refine wpAny_FormattedValue_plain (wpAny_Name (wpAny_loadName_local hk hl hn hm ?_) hd)
  have fin : ∀ (y : Str) (t tk : Nat), y.length ≤ 1000 → ∃ y' t', Value.str y t = .str y' t' ∧ (Str.empty ++ s1 ++ y').length ≤ sizeLine ∧ Joins (model prog w) A' E [] (Str.empty ++ s1 ++ y') (fun out s₁ => out.length ≤ sizeLine ∧ Q (.str out s₁.toks) { s₁ with toks := s₁.toks + 1 }) { s' with toks := tk } := fun y t tk hy => by
    have z : (Str.empty ++ s1 ++ y).length ≤ sizeLine := by
      rw [Str_len_app, Str_len_app, b0]
      exact big _ (by omega)
    exact ⟨y, t, rfl, z, z, hQ _ _⟩
  rcases mv with ⟨y, rfl, hy⟩ | ⟨i, rfl, hz, hy⟩
  · obtain ⟨t, rfl⟩ := rv
    exact wpAny_formatField_str (fin y _ _ hy) (fin y _ _ hy) (big _ (by omega))
  · obtain ⟨t, rfl⟩ := rv
    exact wpAny_formatField_int hz (fin _ _ _ hy)
end DL
namespace DL
open PySem L2 PyProof.Rows PySem.Calls
theorem excOk1_of2 {Γ : Ga} {C fI : Addr} {x f qual : Str} {s1 : Str} {j1 : Nat} {z1 z2 z3 fp : Pos} {sc : Scope} (T : SupTxt Γ.P Γ.K Γ.mg C fI x f qual [.Constant (.str s1) j1 z1, .FormattedValue (.Name f z2) (-1) none z3] fp sc) (l1 : s1.length ≤ 1000) (hd : (x == ("__debug__" : Str)) = false) : ExcOk1 Γ 1 x C f :=
  ⟨fun X e1 e2 e3 e4 e5 hr hg a ta p pos ha hs hpl => by
    have T' : SupTxt X.prog X.K X.mg C fI x f qual [.Constant (.str s1) j1 z1, .FormattedValue (.Name f z2) (-1) none z3] fp sc := by rw [e1, e3, e4]; exact T
    exact pmk_sup T' hr ha hg hd (fun v u mv rv A' E env m s' Q h1 h2 h3 h4 => fe_ok2 T.kind T.na T.nad l1 v u mv rv A' E env m s' Q h1 h2 h3 h4) hs hpl⟩
end DL
end

section
set_option Elab.async false
set_option linter.all false
set_option maxRecDepth 100000
set_option maxHeartbeats 5000000
namespace DL
open PySem L2 PyProof.Rows
/-! ### the caught error, one with a field: what is asked of it in the suite -/
section
variable {X : Cx} {C a dx : Addr} {oe : Obj} {f : Str} {v : V} {pn : List (Addr × Obj)}
/-- the error that the suite holds, as the library's rules want it -/
theorem held_inst {pins : List (Addr × Obj)} {σ : L2.St} {H : Hp} {s : Shared} (I : Inv (X.suite a ((a, oe) :: pn)) pins σ H s) (z : Zc (.ref C) (some dx) oe) (flds : ∃ vs, oe.data = .fields vs) (field : H dx = some (.xd [(f, v)])) :
    ∃ (od : Obj) (u : Value), PySem.W.InstAt s.heap a oe C (some od) ∧ RelV v u ∧ ∀ n : Str, PySem.W.lookIn n od = some (if n = f then some u else none) := by
  have pinned := (I.pin (a, oe) (List.mem_append_left pins List.mem_cons_self)).1
  obtain ⟨m, names, rel⟩ := (show ObjOk X.prog X.w H s.heap dx (.xd [(f, v)]) from I.hok dx _ field)
  obtain ⟨od, there, look⟩ := lookIn_ns names
  have one : ∀ n : Str, RelO (List.lookup n [(f, v)]) (m n) := rel
  obtain ⟨u, at_f, ru⟩ := RelO.some_of (v := v) (o := m f) (by have q := one f; rwa [show List.lookup f [(f, v)] = some v from by simp [List.lookup]] at q)
  have body : PySem.W.notCls oe = true := by
    obtain ⟨vs, e⟩ := flds
    unfold PySem.W.notCls
    rw [e]
  have dict : PySem.W.InstAt s.heap a oe C (some od) := ⟨pinned, z.1, body, by rw [z.2]; exact there⟩
  refine ⟨od, u, dict, ru, fun n => ?_⟩
  rw [look n]
  congr 1
  by_cases c : n = f
  · rw [if_pos c, c, at_f]
  · rw [if_neg c]
    have none_ : List.lookup n [(f, v)] = none := by
      have w : (n == f) = false := by simpa using c
      simp [List.lookup, w]
    have q := one n
    rw [none_] at q
    cases e : m n with
    | none => rfl
    | some y => rw [e] at q; exact q.elim
/-- isinstance(e, c) -/
def rIsF (K : PySem.W.Frag) (C a dx : Addr) (f : Str) (v : V) : List V → Hp → VK → Prop := fun xs H Q => ∃ (c : V) (cv : Value) (b : Bool), xs = [.ref a, c] ∧ (∀ u, RelV c u → u = cv) ∧ PySem.W.kitOne K (.ref C) cv = some b ∧ H dx = some (.xd [(f, v)]) ∧ Q (.bl b) H
theorem call_isF (cl : ExcC X.K C) (z : Zc (.ref C) (some dx) oe) (flds : ∃ vs, oe.data = .fields vs) : CallR (X.suite a ((a, oe) :: pn)) (.builtin "isinstance") (rIsF X.K C a dx f v) := by
  rintro pins s σ H xs us Q I r ⟨c, cv, b, rfl, only, word, field, q⟩
  match us, r with
  | [x, y], .cons rx (.cons ry .nil) =>
    cases rx
    cases only y ry
    obtain ⟨od, _, inst, _, _⟩ := held_inst I z flds field
    have known : (PySem.W.clsIn X.K C).isSome = true := by
      have d := cl.hd
      unfold PySem.W.hasDictIn at d
      cases e : PySem.W.clsIn X.K C with
      | none => rw [e] at d; cases d
      | some _ => rfl
    exact PySem.W.kia_one (PySem.W.kitx_exc (od := some od) known cl.hg cl.hk cl.hs cl.ha cl.hn cl.ht cl.hm) I.kIn inst word (fun z => nomatch z) fun tk => ⟨.bl b, H, I.tok tk, rfl, q⟩
/-- e.f -/
def tErrF (C a dx : Addr) (f : Str) (v : V) (te : TE) : TE := fun σ H Q => te σ H fun x H1 => x = .ref a ∧ H1 dx = some (.xd [(f, v)]) ∧ Q v H1
theorem pe_errF {e : Expr} {te : TE} {pos : Pos} (cl : ExcC X.K C) (na : PySem.W.findIn X.K (.ref C) f = some none) (z : Zc (.ref C) (some dx) oe) (flds : ∃ vs, oe.data = .fields vs) (he : PE (X.suite a ((a, oe) :: pn)) e te)
    (hb : attributeBase e f X.env (eval e X.env) = eval e X.env) : PE (X.suite a ((a, oe) :: pn)) (.Attribute e f pos) (tErrF C a dx f v te) := by
  refine ⟨fun pins s σ H Q I h => attr_of hb (thn (he.run pins s σ H _ I h) ?_)⟩
  rintro u s1 ⟨x, H1, I1, rx, ex, field, q⟩
  subst ex
  cases rx
  obtain ⟨od, w, inst, rw_, look⟩ := held_inst I1 z flds field
  exact HandSPX.exc_get I1.kIn inst cl.hg cl.hk cl.hs (PySem.W.findObj_own cl.hd na rfl (by rw [look f, if_pos rfl])) (handed_of rw_) ⟨v, H1, I1.tok _, rw_, q⟩
end
end DL
end

section
set_option Elab.async false
set_option linter.all false
set_option maxRecDepth 100000
set_option maxHeartbeats 5000000
namespace DL
open PySem L2 PyProof.Rows
/-! ### xs.count(y) of flat things -/
/-- what a value stands for -/
def unV : Value → Option V
  | .none => some .non
  | .bool b => some (.bl b)
  | .int i _ => some (.int i)
  | .str x _ => some (.str x)
  | .bytes b _ => some (.byt b)
  | .float b _ => some (.flt b)
  | .ref a => some (.ref a)
  | .type n => some (.ty n)
  | _ => none
theorem unV_rel {x : V} {u : Value} (h : L2.RelV x u) : unV u = some x := by
  cases x <;> first
    | (cases h; rfl)
    | (obtain ⟨_, e⟩ := h; rw [e]; rfl)
/-- whether a value stands for something that y is equal to -/
def hits (y : V) (u : Value) : Bool := match unV u with
  | some x => eqV x y
  | none => false
theorem hits_rel {x y : V} {u : Value} (h : L2.RelV x u) : hits y u = eqV x y := by
  unfold hits
  rw [unV_rel h]
theorem hits_all {y : V} : ∀ {xs : List V} {us : List Value}, Vals xs us → us.countP (hits y) = xs.countP (fun x => eqV x y)
  | _, _, .nil => rfl
  | x :: xs, u :: us, .cons h r => by
    rw [List.countP_cons, List.countP_cons, hits_all r, hits_rel h]
def rCountF (K : PySem.W.Frag) : V → List V → Hp → VK → Prop := fun x xs H Q => ∃ (p : Addr) (ys : List V) (y : V), x = .ref p ∧ xs = [y] ∧ SqL K H p ys ∧ flatV y = true ∧ ys.all flatV = true ∧ Q (.int (ys.countP fun z => eqV z y : Nat)) H
theorem mt_countF {X : Cx} : MtR X "list.count" (rCountF X.K) := by
  rintro pins s σ H x xs v us Q I rx rs ⟨p, ys, y, rfl, rfl, here, fy, fl, q⟩
  match us, rs with
  | [w], .cons ry .nil =>
    cases rx
    obtain ⟨its, vals, ⟨ob, n, at_, cls, _, dat⟩, _⟩ := I.list here
    rcases ob with ⟨oc, od, dt, sl⟩
    cases cls
    cases dat
    have each : ∀ {xs : List V} {us : List Value}, Vals xs us → xs.all flatV = true → ∀ u ∈ us, ∃ z, L2.RelV z u ∧ flatV z = true := fun {xs} {us} r => by
      induction r with
      | nil => intro _ u hu; cases hu
      | cons h _ ih =>
        intro al u hu
        rw [List.all_cons, Bool.and_eq_true] at al
        obtain e | hu := List.mem_cons.mp hu
        · exact ⟨_, by rw [e]; exact h, al.1⟩
        · exact ih al.2 u hu
    refine call_meets PySem.F.slot_list_count ⟨_, at_, rfl⟩ PySem.F.entry_list_count (PySem.F.args_list_count_2 _ _) (SeqAt.list_countAt p its.toArray n od sl w (hits y)) ⟨at_, fun u hu => ?_, ?_⟩
    · obtain ⟨z, rz, fz⟩ := each vals fl u (by simpa using hu)
      rw [hits_rel rz]
      exact eqAt_V rz ry fz fy
    · refine ⟨.int (ys.countP fun z => eqV z y : Nat), H, I.tok _, ⟨s.toks, ?_⟩, q⟩
      show Value.int ((its.countP (hits y) : Nat) : Int) s.toks = _
      rw [hits_all vals]
end DL
end

section
set_option Elab.async false
set_option linter.all false
set_option maxRecDepth 100000
set_option maxHeartbeats 5000000
/-! The functional layer: what a def does to data, as a tree of its choices. -/
namespace DL
open PySem L2
inductive Tm (α : Type) where
  | ret (a : α)
  | exc (x : Xc)
  | stuck
  | any (post : D → Prop) (k : D → Tm α)
namespace Tm
variable {α β γ : Type}
def bind : Tm α → (α → Tm β) → Tm β
  | .ret a, f => f a
  | .exc x, _ => .exc x
  | .stuck, _ => .stuck
  | .any p k, f => .any p fun d => (k d).bind f
def all : Tm α → (α → Prop) → XP → Prop
  | .ret a, Q, _ => Q a
  | .exc x, _, X => X x
  | .stuck, _, _ => False
  | .any p k, Q, X => ∀ d, p d → (k d).all Q X
@[simp] theorem all_ret {a : α} {Q X} : (Tm.ret a).all Q X = Q a := rfl
@[simp] theorem all_exc {x : Xc} {Q : α → Prop} {X} : (Tm.exc x : Tm α).all Q X = X x := rfl
@[simp] theorem all_stuck {Q : α → Prop} {X} : (Tm.stuck : Tm α).all Q X = False := rfl
@[simp] theorem bind_ret {a : α} {f : α → Tm β} : (Tm.ret a).bind f = f a := rfl
@[simp] theorem bind_exc {x : Xc} {f : α → Tm β} : (Tm.exc x : Tm α).bind f = .exc x := rfl
@[simp] theorem bind_stuck {f : α → Tm β} : (Tm.stuck : Tm α).bind f = .stuck := rfl
theorem all_bind : ∀ {t : Tm α} {f : α → Tm β} {Q X}, (t.bind f).all Q X = t.all (fun a => (f a).all Q X) X
  | .ret a, f, Q, X => rfl
  | .exc x, f, Q, X => rfl
  | .stuck, f, Q, X => rfl
  | .any p k, f, Q, X => by
    show (∀ d, p d → ((k d).bind f).all Q X) = (∀ d, p d → (k d).all (fun a => (f a).all Q X) X)
    have : ∀ d, ((k d).bind f).all Q X = (k d).all (fun a => (f a).all Q X) X := fun d => all_bind
    simp only [this]
theorem bind_assoc : ∀ {t : Tm α} {f : α → Tm β} {g : β → Tm γ}, (t.bind f).bind g = t.bind fun a => (f a).bind g
  | .ret a, f, g => rfl
  | .exc x, f, g => rfl
  | .stuck, f, g => rfl
  | .any p k, f, g => by
    show Tm.any p (fun d => ((k d).bind f).bind g) = Tm.any p (fun d => (k d).bind fun a => (f a).bind g)
    congr 1
    funext d
    exact bind_assoc
theorem bind_id : ∀ {t : Tm α}, (t.bind Tm.ret) = t
  | .ret a => rfl
  | .exc x => rfl
  | .stuck => rfl
  | .any p k => by
    show Tm.any p (fun d => (k d).bind Tm.ret) = _
    congr 1
    funext d
    exact bind_id
theorem mono {Q Q' : α → Prop} {X X' : XP} (hq : ∀ a, Q a → Q' a) (hx : ∀ x, X x → X' x) : ∀ {t : Tm α}, t.all Q X → t.all Q' X'
  | .ret a, h => hq a h
  | .exc x, h => hx x h
  | .stuck, h => h
  | .any p k, h => fun d hd => mono hq hx (h d hd)
theorem mono1 {Q Q' : α → Prop} {X : XP} (hq : ∀ a, Q a → Q' a) {t : Tm α} (h : t.all Q X) : t.all Q' X := mono hq (fun _ h => h) h
theorem all_and {Q Q' : α → Prop} {X X' : XP} : ∀ {t : Tm α}, t.all Q X → t.all Q' X' → t.all (fun a => Q a ∧ Q' a) (fun x => X x ∧ X' x)
  | .ret a, h, h' => ⟨h, h'⟩
  | .exc x, h, h' => ⟨h, h'⟩
  | .stuck, h, _ => h
  | .any p k, h, h' => fun d hd => all_and (h d hd) (h' d hd)
def safe (t : Tm α) : Prop := t.all (fun _ => True) (fun _ => True)
def may : Tm α → α → Prop
  | .ret a, b => b = a
  | .any p k, b => ∃ d, p d ∧ (k d).may b
  | _, _ => False
def mayX : Tm α → Xc → Prop
  | .exc x, y => y = x
  | .any p k, y => ∃ d, p d ∧ (k d).mayX y
  | _, _ => False
theorem all_of {Q : α → Prop} {X : XP} : ∀ {t : Tm α}, t.safe → (∀ a, t.may a → Q a) → (∀ x, t.mayX x → X x) → t.all Q X
  | .ret a, _, h, _ => h a rfl
  | .exc x, _, _, h => h x rfl
  | .stuck, h, _, _ => h
  | .any p k, h, hq, hx => fun d hd => all_of (h d hd) (fun a ha => hq a ⟨d, hd, ha⟩) (fun x h' => hx x ⟨d, hd, h'⟩)
theorem safe_of {Q : α → Prop} {X : XP} {t : Tm α} (h : t.all Q X) : t.safe := mono (fun _ _ => trivial) (fun _ _ => trivial) h
theorem may_of {Q : α → Prop} {X : XP} : ∀ {t : Tm α}, t.all Q X → ∀ a, t.may a → Q a
  | .ret a, h, b, e => by cases (show b = a from e); exact h
  | .any p k, h, b, ⟨d, hd, e⟩ => may_of (h d hd) b e
  | .exc x, h, b, e => e.elim
theorem mayX_of {Q : α → Prop} {X : XP} : ∀ {t : Tm α}, t.all Q X → ∀ x, t.mayX x → X x
  | .exc a, h, b, e => by cases (show b = a from e); exact h
  | .any p k, h, b, ⟨d, hd, e⟩ => mayX_of (h d hd) b e
  | .ret x, h, b, e => e.elim
def ofO : Option α → Tm α
  | some a => .ret a
  | none => .stuck
@[simp] theorem ofO_some {a : α} : ofO (some a) = .ret a := rfl
@[simp] theorem ofO_none : ofO (none : Option α) = .stuck := rfl
theorem all_ofO {o : Option α} {Q X} : (ofO o).all Q X ↔ ∃ a, o = some a ∧ Q a := by
  cases o with
  | none => simp
  | some a => simp
def chk (b : Bool) (t : Tm α) : Tm α := match b with | true => t | false => .stuck
@[simp] theorem chk_true {t : Tm α} : chk true t = t := rfl
theorem all_chk {b : Bool} {t : Tm α} {Q X} : (chk b t).all Q X ↔ b = true ∧ t.all Q X := by
  cases b with
  | true => simp
  | false => simp [chk]
theorem chk_of {b : Bool} {t : Tm α} (h : b = true) : chk b t = t := by rw [h]; rfl
theorem bind_chk {b : Bool} {t : Tm α} {f : α → Tm β} : (chk b t).bind f = chk b (t.bind f) := by cases b <;> rfl
end Tm
/-! ### readers -/
abbrev FE := En → Tm D
abbrev FT := En → Tm Bool
abbrev FL := En → Tm (List D)
abbrev FO := En → Tm (Option Int)
abbrev FG := D → En → Option En
inductive Oc where
  | nx (ρ : En) | rt (d : D) | bk (ρ : En) | ct (ρ : En)
abbrev FS := En → Tm Oc
def tE (F : FE) : TD := fun ρ Q X => (F ρ).all (fun d => Q d ρ) X
def tT (F : FT) : TDT := fun ρ Q X => (F ρ).all (fun d => Q d ρ) X
def tL (F : FL) : En → (List D → En → Prop) → XP → Prop := fun ρ Q X => (F ρ).all (fun d => Q d ρ) X
def tO (F : FO) : TDO := fun ρ Q X => (F ρ).all (fun d => Q d ρ) X
def tG (F : FG) : TDG := fun d ρ P => ∃ ρ', F d ρ = some ρ' ∧ P ρ'
def endOf (De : DE) : Oc → Prop
  | .nx ρ => De.nx ρ | .rt d => De.rt d | .bk ρ => De.bk ρ | .ct ρ => De.ct ρ
def tS (F : FS) : TDS := fun De ρ X => (F ρ).all (endOf De) X
section
variable {Γ : Ga} {K : PySem.W.Frag} {E : XR} {e a b c : Expr} {es : List Expr} {st : Stmt} {sts : List Stmt}
theorem DEx.mono {T T' : TD} (h : DEx Γ e T) (m : ∀ ρ Q X, T' ρ Q X → T ρ Q X) : DEx Γ e T' :=
  let ⟨t, p, s⟩ := h; ⟨t, p, fun M H0 ρ σ H Q Q' PX R L h k => s M H0 ρ σ H Q Q' PX R L (m _ _ _ h) k⟩
theorem DAx.mono {T T' : TDA} (h : DAx Γ es T) (m : ∀ ρ Q X, T' ρ Q X → T ρ Q X) : DAx Γ es T' :=
  let ⟨t, p, s⟩ := h; ⟨t, p, fun M H0 ρ σ H Q Q' PX R L h k => s M H0 ρ σ H Q Q' PX R L (m _ _ _ h) k⟩
theorem DTx.mono {T T' : TDT} (h : DTx Γ e T) (m : ∀ ρ Q X, T' ρ Q X → T ρ Q X) : DTx Γ e T' :=
  let ⟨t, p, s⟩ := h; ⟨t, p, fun M H0 ρ σ H Q Q' PX R L h k => s M H0 ρ σ H Q Q' PX R L (m _ _ _ h) k⟩
theorem DWx.mono {T T' : TDT} (h : DWx Γ e T) (m : ∀ ρ Q X, T' ρ Q X → T ρ Q X) : DWx Γ e T' :=
  let ⟨t, p, s⟩ := h; ⟨t, p, fun M H0 ρ σ H Q Q' PX R L h k => s M H0 ρ σ H Q Q' PX R L (m _ _ _ h) k⟩
theorem DTsx.mono {T T' : TDT} (h : DTsx Γ es T) (m : ∀ ρ Q X, T' ρ Q X → T ρ Q X) : DTsx Γ es T' :=
  let ⟨t, p, s⟩ := h; ⟨t, p, fun M H0 ρ σ H Q Q' PX R L h k => s M H0 ρ σ H Q Q' PX R L (m _ _ _ h) k⟩
theorem DOx.mono {o : Option Expr} {T T' : TDO} (h : DOx Γ o T) (m : ∀ ρ Q X, T' ρ Q X → T ρ Q X) : DOx Γ o T' :=
  let ⟨t, p, s⟩ := h; ⟨t, p, fun M H0 ρ σ H Q Q' PX R L h k => s M H0 ρ σ H Q Q' PX R L (m _ _ _ h) k⟩
theorem DLx.mono {T T' : TDL} (h : DLx Γ e T) (m : ∀ ρ Q X, T' ρ Q X → T ρ Q X) : DLx Γ e T' :=
  let ⟨t, p, s⟩ := h; ⟨t, p, fun M H0 ρ σ H Q Q' PX R L h k => s M H0 ρ σ H Q Q' PX R L (m _ _ _ h) k⟩
theorem DIx.mono {tg : Expr} {T T' : TDI} (h : DIx Γ tg e T) (m : ∀ ρ Q X, T' ρ Q X → T ρ Q X) : DIx Γ tg e T' :=
  let ⟨t, p, s⟩ := h; ⟨t, p, fun M H0 ρ σ H Q Q' PX R L h k => s M H0 ρ σ H Q Q' PX R L (m _ _ _ h) k⟩
theorem DGx.mono {vs : Option (List Nat)} {T T' : TDG} (h : DGx Γ vs e T) (m : ∀ d ρ P, T' d ρ P → T d ρ P) : DGx Γ vs e T' :=
  let ⟨t, p, s⟩ := h; ⟨t, p, fun M H0 ρ σ H d x P R Rp' r h k => s M H0 ρ σ H d x P R Rp' r (m _ _ _ h) k⟩
theorem DGsx.mono {vs : Option (List Nat)} {T T' : TDGs} (h : DGsx Γ vs es T) (m : ∀ d ρ P, T' d ρ P → T d ρ P) : DGsx Γ vs es T' :=
  let ⟨t, p, s⟩ := h; ⟨t, p, fun M H0 ρ σ H d x P R Rp' r h k => s M H0 ρ σ H d x P R Rp' r (m _ _ _ h) k⟩
theorem DS.mono {T T' : TDS} (h : DS Γ st T) (m : ∀ De ρ X, T' De ρ X → T De ρ X) : DS Γ st T' :=
  let ⟨t, p, s⟩ := h; ⟨t, p, fun M H0 ρ σ H D0 D' PX R L k h => s M H0 ρ σ H D0 D' PX R L k (m _ _ _ h)⟩
theorem DSs.mono {T T' : TDS} (h : DSs Γ sts T) (m : ∀ De ρ X, T' De ρ X → T De ρ X) : DSs Γ sts T' :=
  let ⟨t, p, s⟩ := h; ⟨t, p, fun M H0 ρ σ H D0 D' PX R L k h => s M H0 ρ σ H D0 D' PX R L k (m _ _ _ h)⟩
end
end DL
end

section
set_option Elab.async false
set_option linter.all false
set_option maxRecDepth 100000
set_option maxHeartbeats 5000000
namespace DL
open PySem L2
/-! ### equality of data, reckoned -/
def okB : Nat → D → Bool
  | _, .non => true
  | _, .bl _ => true
  | _, .int _ => true
  | _, .str cs => okC cs
  | n + 1, .tup xs => xs.all (okB n)
  | n + 1, .lst xs => xs.all (okB n)
  | _, _ => false
def eqLs (f : D → D → Bool) : List D → List D → Bool
  | [], [] => true
  | x :: xs, y :: ys => f x y && eqLs f xs ys
  | _, _ => false
def eqB : Nat → D → D → Bool
  | _, .non, .non => true
  | _, .bl a, .bl b => a == b
  | _, .bl a, .int b => (if a then 1 else 0) == b
  | _, .int a, .bl b => a == (if b then 1 else 0)
  | _, .int a, .int b => a == b
  | _, .str a, .str b => a == b
  | n + 1, .tup xs, .tup ys => eqLs (eqB n) xs ys
  | n + 1, .lst xs, .lst ys => eqLs (eqB n) xs ys
  | _, _, _ => false
theorem okB_can : ∀ {n : Nat} {d : D}, okB n d = true → (toPy d).canLay0 = true ∧ (toPy d).depth ≤ n := by
  intro n
  induction n with
  | zero =>
    intro d h
    cases d with
    | non => exact ⟨rfl, Nat.le_refl _⟩
    | bl b => exact ⟨rfl, Nat.le_refl _⟩
    | int i => exact ⟨rfl, Nat.le_refl _⟩
    | str cs =>
      have := okD_str h
      exact ⟨SeqAt.canLay_of_shaped this, Nat.le_refl _⟩
    | _ => cases h
  | succ n ih =>
    have go : ∀ xs : List D, xs.all (okB n) = true → PyData.canLayAll0 (toPys xs) = true ∧ PyData.depthAll (toPys xs) ≤ n := by
      intro xs
      induction xs with
      | nil => intro _; exact ⟨rfl, Nat.zero_le _⟩
      | cons x xs ihx =>
        intro h
        rw [List.all_cons, Bool.and_eq_true_iff] at h
        obtain ⟨a1, a2⟩ := ih h.1
        obtain ⟨b1, b2⟩ := ihx h.2
        refine ⟨?_, ?_⟩
        · show ((toPy x).canLay0 && PyData.canLayAll0 (toPys xs)) = true
          rw [a1, b1]; rfl
        · show max (toPy x).depth (PyData.depthAll (toPys xs)) ≤ n
          omega
    intro d h
    cases d with
    | non => exact ⟨rfl, Nat.zero_le _⟩
    | bl b => exact ⟨rfl, Nat.zero_le _⟩
    | int i => exact ⟨rfl, Nat.zero_le _⟩
    | str cs =>
      have := okD_str h
      exact ⟨SeqAt.canLay_of_shaped this, Nat.zero_le _⟩
    | tup xs =>
      obtain ⟨a, b⟩ := go xs h
      exact ⟨a, Nat.succ_le_succ b⟩
    | lst xs =>
      obtain ⟨a, b⟩ := go xs h
      exact ⟨a, Nat.succ_le_succ b⟩
    | _ => cases h
theorem okB_okD {n : Nat} (hn : n ≤ 64) {d : D} (h : okB n d = true) : okD d = true := by
  obtain ⟨a, b⟩ := okB_can h
  show ((toPy d).canLay0 && decide ((toPy d).depth ≤ 64)) = true
  rw [a, decide_eq_true (by omega)]
  rfl
theorem eqB_eqD : ∀ {n : Nat} {d e : D}, okB n d = true → okB n e = true → eqD d e = eqB n d e := by
  intro n
  induction n with
  | zero =>
    intro d e hd he
    cases d <;> first | (cases hd; done) | (cases e <;> first | (cases he; done) | rfl | (rw [eqD_str]; rfl))
  | succ n ih =>
    have go : ∀ xs ys : List D, xs.all (okB n) = true → ys.all (okB n) = true → PyData.eqvAll (toPys xs) (toPys ys) = eqLs (eqB n) xs ys := by
      intro xs
      induction xs with
      | nil => intro ys _ _; cases ys <;> rfl
      | cons x xs ihx =>
        intro ys hx hy
        cases ys with
        | nil => rfl
        | cons y ys =>
          rw [List.all_cons, Bool.and_eq_true_iff] at hx hy
          show (PyData.eqv (toPy x) (toPy y) && PyData.eqvAll (toPys xs) (toPys ys)) = (eqB n x y && eqLs (eqB n) xs ys)
          rw [ihx ys hx.2 hy.2, ← ih hx.1 hy.1]
          rfl
    intro d e hd he
    cases d <;> first | (cases hd; done) | (cases e <;> first | (cases he; done) | rfl | (rw [eqD_str]; rfl) | exact go _ _ hd he)
/-! ### operations -/
abbrev Op2 := D → D → Option D
def imp2 (o : Op2) (g : D → D → (D → Prop) → Prop) : Prop := ∀ x y z P, o x y = some z → P z → g x y P
def gd (b : Bool) (d : D) : Option D := match b with | true => some d | false => none
theorem gd_some {b : Bool} {d z : D} (h : gd b d = some z) : b = true ∧ z = d := by
  cases b with
  | true => cases h; exact ⟨rfl, rfl⟩
  | false => cases h
theorem gd_t {b : Bool} {d : D} (h : b = true) : gd b d = some d := by rw [h]; rfl
def oAdd : Op2
  | .int i, .int j => some (.int (i + j))
  | .str a, .str b => gd (decide (a.length + b.length ≤ 100000)) (.str (a ++ b))
  | .lst a, .lst b => gd (decide (a.length + b.length ≤ 100000)) (.lst (a ++ b))
  | .tup a, .tup b => gd (decide (a.length + b.length ≤ 100000)) (.tup (a ++ b))
  | _, _ => none
theorem i_add : imp2 oAdd gAdd := by
  intro x y z P h p
  cases x <;> cases y <;> first | (cases h; done) | (cases h; exact p) | (obtain ⟨a, rfl⟩ := gd_some h; exact ⟨of_decide_eq_true a, p⟩)
def oI (g : Int → Int → D) (c : Int → Int → Bool) : Op2
  | .int i, .int j => gd (c i j) (g i j)
  | _, _ => none
theorem i_I {g : Int → Int → D} {c : Int → Int → Bool} {C : Int → Int → Prop} (hc : ∀ i j, c i j = true → C i j) : imp2 (oI g c) (gI g C) := by
  intro x y z P h p
  cases x <;> cases y <;> first | (cases h; done) | (obtain ⟨a, rfl⟩ := gd_some h; exact ⟨hc _ _ a, p⟩)
def cT (_ _ : Int) : Bool := true
def oSub : Op2 := oI (fun i j => .int (i - j)) cT
def oMul : Op2 := oI (fun i j => .int (i * j)) fun i j => decide (i.natAbs < 2 ^ 64) || decide (j.natAbs < 2 ^ 64)
def oDiv : Op2 := oI (fun i j => .int (i / j)) fun _ j => decide (0 < j) && decide (j < 1073741824)
def oMod : Op2 := oI (fun i j => .int (i % j)) fun _ j => decide (0 < j)
def oPow : Op2 := oI (fun i j => .int (i ^ j.toNat)) fun i j => decide (0 ≤ j) && decide (j ≤ 1000000) && decide (i.natAbs < 2 ^ 64)
def oLt : Op2 := oI (fun i j => .bl (decide (i < j))) cT
def oLe : Op2 := oI (fun i j => .bl (decide (i ≤ j))) cT
def oGt : Op2 := oI (fun i j => .bl (decide (j < i))) cT
def oGe : Op2 := oI (fun i j => .bl (decide (j ≤ i))) cT
theorem i_sub : imp2 oSub gSub := i_I fun _ _ _ => trivial
theorem i_lt : imp2 oLt gLt := i_I fun _ _ _ => trivial
theorem i_le : imp2 oLe gLe := i_I fun _ _ _ => trivial
theorem i_gt : imp2 oGt gGt := i_I fun _ _ _ => trivial
theorem i_ge : imp2 oGe gGe := i_I fun _ _ _ => trivial
theorem i_mul : imp2 oMul gMul0 := i_I fun i j h => by
  cases Bool.or_eq_true_iff.mp h with
  | inl h => exact .inl ⟨by have := of_decide_eq_true h; omega, by have := of_decide_eq_true h; omega⟩
  | inr h => exact .inr ⟨by have := of_decide_eq_true h; omega, by have := of_decide_eq_true h; omega⟩
theorem i_div : imp2 oDiv gDiv := i_I fun i j h => by
  have ab := Bool.and_eq_true_iff.mp h
  exact ⟨of_decide_eq_true ab.1, of_decide_eq_true ab.2⟩
theorem i_mod : imp2 oMod gMod := i_I fun i j h => of_decide_eq_true h
theorem i_pow : imp2 oPow gPow := i_I fun i j h => by
  have hc := Bool.and_eq_true_iff.mp h
  have ab := Bool.and_eq_true_iff.mp hc.1
  exact ⟨of_decide_eq_true ab.1, of_decide_eq_true ab.2, of_decide_eq_true hc.2⟩
def oEq : Op2 := fun d e => gd (okB 8 d && okB 8 e) (.bl (eqB 8 d e))
def oNe : Op2 := fun d e => gd (okB 8 d && okB 8 e) (.bl (!eqB 8 d e))
theorem i_eq : imp2 oEq gEq := by
  intro x y z P h p
  obtain ⟨a, rfl⟩ := gd_some h
  obtain ⟨a, b⟩ := Bool.and_eq_true_iff.mp a
  exact ⟨okB_okD (by decide) a, okB_okD (by decide) b, by rw [eqB_eqD a b]; exact p⟩
theorem i_ne : imp2 oNe gNe := by
  intro x y z P h p
  obtain ⟨a, rfl⟩ := gd_some h
  obtain ⟨a, b⟩ := Bool.and_eq_true_iff.mp a
  exact ⟨okB_okD (by decide) a, okB_okD (by decide) b, by rw [eqB_eqD a b]; exact p⟩
def isNon : D → Bool | .non => true | _ => false
def oIsN : Op2 := fun d e => match e with | .non => some (.bl (isNon d)) | _ => none
def oNotN : Op2 := fun d e => match e with | .non => some (.bl (!isNon d)) | _ => none
theorem i_isN : imp2 oIsN gIsN := by
  intro x y z P h p
  cases y <;> first | (cases h; done) | skip
  cases h
  cases x <;> exact p
theorem i_notN : imp2 oNotN gNotN := by
  intro x y z P h p
  cases y <;> first | (cases h; done) | skip
  cases h
  cases x <;> exact p
/-- whether one text is within another: of one sign, by looking; else as the layer says it -/
def subB (a b : List Nat) : Bool := match a with
  | [c] => decide (c ∈ b)
  | a => subT a b
theorem subB_eq (a b : List Nat) : subB a b = subT a b := by
  unfold subB
  split
  · rw [subT_one]
  · rfl
def oIn (neg : Bool) : Op2 := fun x y => match y with
  | .str b => (match x with | .str a => some (.bl (if neg then !subB a b else subB a b)) | _ => none)
  | .lst xs => gd (flatD x && xs.all flatD) (.bl (if neg then !inD x xs else inD x xs))
  | .tup xs => gd (flatD x && xs.all flatD) (.bl (if neg then !inD x xs else inD x xs))
  | _ => none
theorem i_in {neg : Bool} : imp2 (oIn neg) (gIn neg) := by
  intro x y z P h p
  cases y with
  | str b =>
    cases x <;> first | (cases h; done) | skip
    cases h
    rw [subB_eq] at p
    exact p
  | lst xs =>
    obtain ⟨a, rfl⟩ := gd_some h
    obtain ⟨a, b⟩ := Bool.and_eq_true_iff.mp a
    exact ⟨a, b, p⟩
  | tup xs =>
    obtain ⟨a, rfl⟩ := gd_some h
    obtain ⟨a, b⟩ := Bool.and_eq_true_iff.mp a
    exact ⟨a, b, p⟩
  | _ => cases h
def oIx : Op2 := fun x y => match y with
  | .int i => (match x with
    | .lst xs => atI xs i
    | .tup xs => atI xs i
    | .str cs => if decide (cs.length ≤ 100000) = true then (atI cs i).map fun c => .str [c] else none
    | _ => none)
  | _ => none
theorem i_ix : imp2 oIx gIx := by
  intro x y z P h p
  cases y <;> first | (cases h; done) | skip
  rename_i i
  cases x with
  | lst xs =>
    show (match atI xs i with | some d => P d | none => False)
    have h : atI xs i = some z := h
    rw [h]; exact p
  | tup xs =>
    show (match atI xs i with | some d => P d | none => False)
    have h : atI xs i = some z := h
    rw [h]; exact p
  | str cs =>
    have h : (if decide (cs.length ≤ 100000) = true then (atI cs i).map fun c => D.str [c] else none) = some z := h
    by_cases hc : cs.length ≤ 100000
    · rw [if_pos (decide_eq_true hc)] at h
      refine ⟨hc, ?_⟩
      cases e : atI cs i with
      | none => rw [e] at h; cases h
      | some c => rw [e] at h; cases h; exact p
    · rw [if_neg (by simpa using hc)] at h
      cases h
  | _ => cases h
/-! ### refinement -/
def RE (F : FE) (T : TD) : Prop := ∀ ρ Q X, tE F ρ Q X → T ρ Q X
def RT (F : FT) (T : TDT) : Prop := ∀ ρ Q X, tT F ρ Q X → T ρ Q X
def RL (F : FL) (T : En → (List D → En → Prop) → XP → Prop) : Prop := ∀ ρ Q X, tL F ρ Q X → T ρ Q X
def RO (F : FO) (T : TDO) : Prop := ∀ ρ Q X, tO F ρ Q X → T ρ Q X
def RG (F : FG) (T : TDG) : Prop := ∀ d ρ P, tG F d ρ P → T d ρ P
def RS (F : FS) (T : TDS) : Prop := ∀ De ρ X, tS F De ρ X → T De ρ X
section
variable {Fa Fb Fc F : FE} {Ta Tb Tc T : TD} {FU FU' : FT} {TU TU' : TDT} {FA' FB' : FL}
open Tm
def fVar (i : Nat) : FE := fun ρ => match ρ[i]? with | some (some (.sh d)) => .ret d | _ => .stuck
theorem r_var {i : Nat} : RE (fVar i) (TV i) := by
  intro ρ Q X h
  unfold TV
  have h : (fVar i ρ).all (fun d => Q d ρ) X := h
  unfold fVar at h
  split at h
  · rename_i d e
    rw [e]; exact h
  · cases h
def fC (d : D) : FE := fun _ => .ret d
theorem r_c {d : D} : RE (fC d) (TC d) := fun ρ Q X h => h
def fOp (o : Op2) (a b : FE) : FE := fun ρ => (a ρ).bind fun x => (b ρ).bind fun y => .ofO (o x y)
theorem r_op {o : Op2} {g : D → D → (D → Prop) → Prop} (ho : imp2 o g) (ha : RE Fa Ta) (hb : RE Fb Tb) : RE (fOp o Fa Fb) (TOp g Ta Tb) := by
  intro ρ Q X h
  have h : ((Fa ρ).bind _).all _ _ := h
  rw [all_bind] at h
  refine ha _ _ _ (mono1 (fun x hx => ?_) h)
  rw [all_bind] at hx
  refine hb _ _ _ (mono1 (fun y hy => ?_) hx)
  obtain ⟨z, e, q⟩ := all_ofO.mp hy
  exact ho _ _ _ _ e q
def fTest (F : FE) : FT := fun ρ => (F ρ).bind fun d => match d with | .bl b => .ret b | _ => .stuck
theorem r_test (h : RE F T) : RT (fTest F) (TTest T) := by
  intro ρ Q X q
  have q : ((F ρ).bind _).all _ _ := q
  rw [all_bind] at q
  refine h _ _ _ (mono1 (fun x hx => ?_) q)
  cases x <;> first | exact False.elim hx | exact hx
def fAnd (a b : FT) : FT := fun ρ => (a ρ).bind fun c => match c with | true => b ρ | false => .ret false
def fOr (a b : FT) : FT := fun ρ => (a ρ).bind fun c => match c with | true => .ret true | false => b ρ
def fNot (a : FT) : FT := fun ρ => (a ρ).bind fun c => .ret (!c)
theorem r_and (h : RT FU TU) (h' : RT FU' TU') : RT (fAnd FU FU') (TAnd TU TU') := by
  intro ρ Q X q
  have q : ((FU ρ).bind _).all _ _ := q
  rw [all_bind] at q
  refine h _ _ _ (mono1 (fun c hc => ?_) q)
  cases c with
  | true => exact h' _ _ _ hc
  | false => exact hc
theorem r_or (h : RT FU TU) (h' : RT FU' TU') : RT (fOr FU FU') (TOr TU TU') := by
  intro ρ Q X q
  have q : ((FU ρ).bind _).all _ _ := q
  rw [all_bind] at q
  refine h _ _ _ (mono1 (fun c hc => ?_) q)
  cases c with
  | true => exact hc
  | false => exact h' _ _ _ hc
theorem r_not (h : RT FU TU) : RT (fNot FU) (TNot TU) := by
  intro ρ Q X q
  have q : ((FU ρ).bind _).all _ _ := q
  rw [all_bind] at q
  exact h _ _ _ q
def fAndV (a b : FE) : FE := fun ρ => (a ρ).bind fun c => match c with | .bl true => b ρ | .bl false => .ret (.bl false) | _ => .stuck
def fOrV (a b : FE) : FE := fun ρ => (a ρ).bind fun c => match c with | .bl true => .ret (.bl true) | .bl false => b ρ | _ => .stuck
def fNotV (a : FE) : FE := fun ρ => (a ρ).bind fun c => match c with | .bl b => .ret (.bl (!b)) | _ => .stuck
theorem r_andV (h : RE Fa Ta) (h' : RE Fb Tb) : RE (fAndV Fa Fb) (TAndV Ta Tb) := by
  intro ρ Q X q
  have q : ((Fa ρ).bind _).all _ _ := q
  rw [all_bind] at q
  refine h _ _ _ (mono1 (fun c hc => ?_) q)
  cases c with
  | bl b =>
    cases b with
    | true => exact h' _ _ _ hc
    | false => exact hc
  | _ => exact hc.elim
theorem r_orV (h : RE Fa Ta) (h' : RE Fb Tb) : RE (fOrV Fa Fb) (TOrV Ta Tb) := by
  intro ρ Q X q
  have q : ((Fa ρ).bind _).all _ _ := q
  rw [all_bind] at q
  refine h _ _ _ (mono1 (fun c hc => ?_) q)
  cases c with
  | bl b =>
    cases b with
    | true => exact hc
    | false => exact h' _ _ _ hc
  | _ => exact hc.elim
theorem r_notV (h : RE Fa Ta) : RE (fNotV Fa) (TNotV Ta) := by
  intro ρ Q X q
  have q : ((Fa ρ).bind _).all _ _ := q
  rw [all_bind] at q
  refine h _ _ _ (mono1 (fun c hc => ?_) q)
  cases c with
  | bl b => exact hc
  | _ => exact hc.elim
def fIfE (c : FT) (a b : FE) : FE := fun ρ => (c ρ).bind fun k => match k with | true => a ρ | false => b ρ
theorem r_ifE (hc : RT FU TU) (h : RE Fa Ta) (h' : RE Fb Tb) : RE (fIfE FU Fa Fb) (TIfE TU Ta Tb) := by
  intro ρ Q X q
  have q : ((FU ρ).bind _).all _ _ := q
  rw [all_bind] at q
  refine hc _ _ _ (mono1 (fun c hc => ?_) q)
  cases c with
  | true => exact h _ _ _ hc
  | false => exact h' _ _ _ hc
def fChain (o o' : Op2) (a b c : FE) : FE := fun ρ => (a ρ).bind fun x => (b ρ).bind fun y => match o x y with
  | some (.bl true) => (c ρ).bind fun w => .ofO (o' y w)
  | some (.bl false) => .ret (.bl false)
  | _ => .stuck
theorem r_chain {o o' : Op2} {g g' : D → D → (D → Prop) → Prop} (ho : imp2 o g) (ho' : imp2 o' g') (ha : RE Fa Ta) (hb : RE Fb Tb) (hc : RE Fc Tc) : RE (fChain o o' Fa Fb Fc) (TChain g g' Ta Tb Tc) := by
  intro ρ Q X q
  have q : ((Fa ρ).bind _).all _ _ := q
  rw [all_bind] at q
  refine ha _ _ _ (mono1 (fun x hx => ?_) q)
  rw [all_bind] at hx
  refine hb _ _ _ (mono1 (fun y hy => ?_) hx)
  split at hy
  · rename_i e
    refine ho _ _ _ _ e ?_
    rw [all_bind] at hy
    refine hc _ _ _ (mono1 (fun w hw => ?_) hy)
    obtain ⟨z, e', q⟩ := all_ofO.mp hw
    exact ho' _ _ _ _ e' q
  · rename_i e
    exact ho _ _ _ _ e hy
  · cases hy
def fNil : FL := fun _ => .ret []
def fCons (a : FE) (r : FL) : FL := fun ρ => (a ρ).bind fun d => (r ρ).bind fun ds => .ret (d :: ds)
theorem r_nil : RL fNil TNil := fun ρ Q X h => h
theorem r_cons {TA : TDA} (ha : RE Fa Ta) (hr : RL FA' TA) : RL (fCons Fa FA') (TCons Ta TA) := by
  intro ρ Q X q
  have q : ((Fa ρ).bind _).all _ _ := q
  rw [all_bind] at q
  refine ha _ _ _ (mono1 (fun x hx => ?_) q)
  rw [all_bind] at hx
  exact hr _ _ _ hx
def ck (ds : List D) : Bool := decide (ds.length ≤ 100000)
def fTup (a : FL) : FE := fun ρ => (a ρ).bind fun ds => chk (ck ds) (.ret (.tup ds))
def fLst (a : FL) : FE := fun ρ => (a ρ).bind fun ds => chk (ck ds) (.ret (.lst ds))
def fLstL (a : FL) : FL := fun ρ => (a ρ).bind fun ds => chk (ck ds) (.ret ds)
theorem r_tup {TA : TDA} (h : RL FA' TA) : RE (fTup FA') (TTup TA) := by
  intro ρ Q X q
  have q : ((FA' ρ).bind _).all _ _ := q
  rw [all_bind] at q
  refine h _ _ _ (mono1 (fun x hx => ?_) q)
  obtain ⟨a, b⟩ := all_chk.mp hx
  exact ⟨of_decide_eq_true a, b⟩
theorem r_lst {TA : TDA} (h : RL FA' TA) : RE (fLst FA') (TLst TA) := by
  intro ρ Q X q
  have q : ((FA' ρ).bind _).all _ _ := q
  rw [all_bind] at q
  refine h _ _ _ (mono1 (fun x hx => ?_) q)
  obtain ⟨a, b⟩ := all_chk.mp hx
  exact ⟨of_decide_eq_true a, b⟩
theorem r_lstL {TA : TDA} (h : RL FA' TA) : RL (fLstL FA') (TLstL TA) := by
  intro ρ Q X q
  have q : ((FA' ρ).bind _).all _ _ := q
  rw [all_bind] at q
  refine h _ _ _ (mono1 (fun x hx => ?_) q)
  obtain ⟨a, b⟩ := all_chk.mp hx
  exact ⟨of_decide_eq_true a, b⟩
def fOfL (F : FL) : FE := fun ρ => (F ρ).bind fun ds => .ret (.lst ds)
theorem r_ofL {T : TDL} (h : RL FA' T) : RE (fOfL FA') (TOfL T) := by
  intro ρ Q X q
  have q : ((FA' ρ).bind _).all _ _ := q
  rw [all_bind] at q
  exact h _ _ _ q
/-- an item of a name's list -/
def fIxV (i : Nat) (b : FE) : FE := fun ρ => match ρ[i]? with
  | some (some (.sh d)) => (b ρ).bind fun y => .ofO (oIx d y)
  | some (some (.ow ds)) => (b ρ).bind fun y => .ofO (oIx (.lst ds) y)
  | _ => .stuck
theorem r_ixv {i : Nat} (h : RE Fb Tb) : RE (fIxV i Fb) (TIxV i Tb) := by
  intro ρ Q X q
  unfold TIxV
  have q : (fIxV i Fb ρ).all _ _ := q
  unfold fIxV at q
  split at q
  · rename_i d e
    try rw [e]
    show Tb ρ _ X
    rw [all_bind] at q
    refine h _ _ _ (mono1 (fun y hy => ?_) q)
    obtain ⟨z, e', q⟩ := all_ofO.mp hy
    exact i_ix _ _ _ _ e' q
  · rename_i ds e
    try rw [e]
    show Tb ρ _ X
    rw [all_bind] at q
    refine h _ _ _ (mono1 (fun y hy => ?_) q)
    obtain ⟨z, e', q⟩ := all_ofO.mp hy
    exact ⟨rfl, i_ix _ _ _ _ e' q⟩
  · cases q
def fNoP : FO := fun _ => .ret none
def fPt (F : FE) : FO := fun ρ => (F ρ).bind fun d => match d with | .int i => .ret (some i) | _ => .stuck
theorem r_noP : RO fNoP TNoP := fun ρ Q X h => h
theorem r_pt (h : RE F T) : RO (fPt F) (TPt T) := by
  intro ρ Q X q
  have q : ((F ρ).bind _).all _ _ := q
  rw [all_bind] at q
  refine h _ _ _ (mono1 (fun x hx => ?_) q)
  cases x <;> first | exact False.elim hx | exact hx
def oCut (d : D) (lo hi : Option Int) : Option D := match d with
  | .lst xs => some (.lst (cutD xs lo hi))
  | .tup xs => some (.tup (cutD xs lo hi))
  | .str cs => gd (decide (cs.length ≤ 100000)) (.str (cutD cs lo hi))
  | _ => none
def fSl (a : FE) (l h : FO) : FE := fun ρ => (a ρ).bind fun d => (l ρ).bind fun lo => (h ρ).bind fun hi => .ofO (oCut d lo hi)
theorem r_sl {Fl Fh : FO} {Tl Th : TDO} (ha : RE Fa Ta) (hl : RO Fl Tl) (hh : RO Fh Th) : RE (fSl Fa Fl Fh) (TSl Ta Tl Th) := by
  intro ρ Q X q
  have q : ((Fa ρ).bind _).all _ _ := q
  rw [all_bind] at q
  refine ha _ _ _ (mono1 (fun d hd => ?_) q)
  rw [all_bind] at hd
  refine hl _ _ _ (mono1 (fun lo hlo => ?_) hd)
  rw [all_bind] at hlo
  refine hh _ _ _ (mono1 (fun hi hhi => ?_) hlo)
  obtain ⟨z, e, q⟩ := all_ofO.mp hhi
  cases d <;> first | (cases e; done) | (cases e; exact q) | (obtain ⟨a, rfl⟩ := gd_some e; exact ⟨of_decide_eq_true a, q⟩)
def fNeg (F : FE) : FE := fun ρ => (F ρ).bind fun d => match d with | .int i => .ret (.int (-i)) | _ => .stuck
theorem r_neg (h : RE F T) : RE (fNeg F) (TNeg T) := by
  intro ρ Q X q
  have q : ((F ρ).bind _).all _ _ := q
  rw [all_bind] at q
  refine h _ _ _ (mono1 (fun x hx => ?_) q)
  cases x <;> first | exact False.elim hx | exact hx
/-! ### built-ins -/
abbrev Op1 := List D → Option D
def imp1 (o : Op1) (g : List D → (D → Prop) → Prop) : Prop := ∀ xs z P, o xs = some z → P z → g xs P
def fCB (o : Op1) (A : FL) : FE := fun ρ => (A ρ).bind fun ds => .ofO (o ds)
theorem r_cb {o : Op1} {g : List D → (D → Prop) → Prop} {TA : TDA} (ho : imp1 o g) (h : RL FA' TA) : RE (fCB o FA') (TCB g TA) := by
  intro ρ Q X q
  have q : ((FA' ρ).bind _).all _ _ := q
  rw [all_bind] at q
  refine h _ _ _ (mono1 (fun x hx => ?_) q)
  obtain ⟨z, e, q⟩ := all_ofO.mp hx
  exact ho _ _ _ e q
def oLen : Op1
  | [.str cs] => gd (decide (cs.length ≤ 100000)) (.int cs.length)
  | [.lst xs] => some (.int xs.length)
  | [.tup xs] => some (.int xs.length)
  | _ => none
theorem i_len : imp1 oLen gLen := by
  intro xs z P h p
  match xs, h with
  | [.str cs], h => obtain ⟨a, rfl⟩ := gd_some h; exact ⟨of_decide_eq_true a, p⟩
  | [.lst xs], h => cases h; exact p
  | [.tup xs], h => cases h; exact p
def oInt : Op1
  | [.int i] => some (.int i)
  | _ => none
theorem i_int : imp1 oInt gInt := by
  intro xs z P h p
  match xs, h with
  | [.int i], h => cases h; exact p
def oList : Op1
  | [.lst xs] => some (.lst xs)
  | [.tup xs] => some (.lst xs)
  | _ => none
theorem i_list : imp1 oList gList := by
  intro xs z P h p
  match xs, h with
  | [.lst xs], h => cases h; exact p
  | [.tup xs], h => cases h; exact p
def oTuple : Op1
  | [.lst xs] => some (.tup xs)
  | [.tup xs] => some (.tup xs)
  | _ => none
theorem i_tuple : imp1 oTuple gTuple := by
  intro xs z P h p
  match xs, h with
  | [.lst xs], h => cases h; exact p
  | [.tup xs], h => cases h; exact p
def oIsi : Op1
  | [d, .ty t] => gd (plainTy d) (.bl (isiD d t))
  | _ => none
theorem i_isi : imp1 oIsi gIsi := by
  intro xs z P h p
  match xs, h with
  | [d, .ty t], h => obtain ⟨a, rfl⟩ := gd_some h; exact ⟨a, p⟩
def oIsC (C : Addr) : Op1
  | [.ins C1 _, .ref C2] => gd (decide (C1 = C) && decide (C2 = C)) (.bl true)
  | _ => none
theorem i_isC {C : Addr} : imp1 (oIsC C) (gIsC C) := by
  intro xs z P h p
  match xs, h with
  | [.ins C1 _, .ref C2], h =>
    obtain ⟨a, rfl⟩ := gd_some h
    obtain ⟨a, b⟩ := Bool.and_eq_true_iff.mp a
    exact ⟨of_decide_eq_true a, of_decide_eq_true b, p⟩
def oAll (f : List Bool → Bool) : Op1
  | [.lst xs] => (boolsOf xs).map fun bs => .bl (f bs)
  | _ => none
theorem i_all {f : List Bool → Bool} : imp1 (oAll f) (gAll f) := by
  intro xs z P h p
  match xs, h with
  | [.lst xs], h =>
    have h : (boolsOf xs).map (fun bs => D.bl (f bs)) = some z := h
    cases e : boolsOf xs with
    | none => rw [e] at h; cases h
    | some bs => rw [e] at h; cases h; exact gAll_lst e p
def oDivmod : Op1
  | [.int i, .int j] => gd (decide (0 < j) && decide (j < 1073741824)) (.tup [.int (i / j), .int (i % j)])
  | _ => none
theorem i_divmod : imp1 oDivmod gDivmod := by
  intro xs z P h p
  match xs, h with
  | [.int i, .int j], h =>
    obtain ⟨a, rfl⟩ := gd_some h
    obtain ⟨a, b⟩ := Bool.and_eq_true_iff.mp a
    exact ⟨⟨of_decide_eq_true a, of_decide_eq_true b⟩, p⟩
/-! ### join, properties, fields -/
def oJoin (a : List Nat) (y : D) : Option D := match (itemsD y).bind textsOf with
  | some bs => gd (decide ((bs.map List.length).sum + bs.length * a.length ≤ 100000)) (.str (TL.joinL a bs))
  | none => none
def fJoin (a b : FE) : FE := fun ρ => (a ρ).bind fun x => match x with | .str s => (b ρ).bind fun y => .ofO (oJoin s y) | _ => .stuck
theorem r_join (ha : RE Fa Ta) (hb : RE Fb Tb) : RE (fJoin Fa Fb) (TJoin Ta Tb) := by
  intro ρ Q X h
  have h : ((Fa ρ).bind _).all _ _ := h
  rw [all_bind] at h
  refine ha _ _ _ (mono1 (fun x hx => ?_) h)
  cases x with
  | str a =>
    rw [all_bind] at hx
    refine hb _ _ _ (mono1 (fun y hy => ?_) hx)
    obtain ⟨z, e, q⟩ := all_ofO.mp hy
    have e : (match (itemsD y).bind textsOf with
      | some bs => gd (decide ((bs.map List.length).sum + bs.length * a.length ≤ 100000)) (D.str (TL.joinL a bs))
      | none => none) = some z := e
    show (match itemsD y with
      | some xs => (match textsOf xs with | some bs => (bs.map List.length).sum + bs.length * a.length ≤ 100000 ∧ Q (.str (TL.joinL a bs)) ρ | none => False)
      | none => False)
    cases e1 : itemsD y with
    | none => rw [e1] at e; cases e
    | some xs =>
      rw [e1] at e
      have e : (match textsOf xs with
        | some bs => gd (decide ((bs.map List.length).sum + bs.length * a.length ≤ 100000)) (D.str (TL.joinL a bs))
        | none => none) = some z := e
      show (match textsOf xs with | some bs => (bs.map List.length).sum + bs.length * a.length ≤ 100000 ∧ Q (.str (TL.joinL a bs)) ρ | none => False)
      cases e2 : textsOf xs with
      | none => rw [e2] at e; cases e
      | some bs =>
        rw [e2] at e
        obtain ⟨a, rfl⟩ := gd_some e
        exact ⟨of_decide_eq_true a, q⟩
  | _ => exact hx.elim
def oFld (C : Addr) (f : Str) : D → Option D
  | .ins C' fs => if C' = C then fs.lookup f else none
  | _ => none
def fFld (C : Addr) (f : Str) (a : FE) : FE := fun ρ => (a ρ).bind fun d => .ofO (oFld C f d)
theorem fld_go {C : Addr} {f : Str} {d z : D} (e : oFld C f d = some z) : ∃ fs, d = .ins C fs ∧ fs.lookup f = some z := by
  cases d with
  | ins C' fs =>
    have e2 : (if C' = C then fs.lookup f else none) = some z := e
    by_cases hc : C' = C
    · rw [if_pos hc] at e2
      subst hc
      exact ⟨fs, rfl, e2⟩
    · rw [if_neg hc] at e2; cases e2
  | _ => cases e
theorem r_fld {C : Addr} {f : Str} (ha : RE Fa Ta) : RE (fFld C f Fa) (TFld C f Ta) := by
  intro ρ Q X h
  have h : ((Fa ρ).bind _).all _ _ := h
  rw [all_bind] at h
  refine ha _ _ _ (mono1 (fun x hx => ?_) h)
  obtain ⟨z, e, q⟩ := all_ofO.mp hx
  obtain ⟨fs, rfl, e3⟩ := fld_go e
  refine ⟨rfl, ?_⟩
  rw [e3]; exact q
theorem r_prop {C : Addr} {f : Str} (ha : RE Fa Ta) : RE (fFld C f Fa) (TProp C f Ta) := by
  intro ρ Q X h
  have h : ((Fa ρ).bind _).all _ _ := h
  rw [all_bind] at h
  refine ha _ _ _ (mono1 (fun x hx => ?_) h)
  obtain ⟨z, e, q⟩ := all_ofO.mp hx
  obtain ⟨fs, rfl, e3⟩ := fld_go e
  refine ⟨rfl, ?_⟩
  rw [e3]; exact q
/-! ### calls -/
abbrev Fn := List D → Tm D
def specF (f : Fn) : Spec := { pre := fun _ ds => (f ds).safe, post := fun _ ds r => (f ds).may r, exc := fun _ ds x => (f ds).mayX x }
def fCall (f : Fn) (n : Nat) (A : FL) : FE := fun ρ => (A ρ).bind fun ds => chk (ds.length == n) (f ds)
theorem r_call {f : Fn} {n : Nat} {row : Addr} {TA : TDA} (h : RL FA' TA) : RE (fCall f n FA') (TCall row (specF f) n TA) := by
  intro ρ Q X q
  have q : ((FA' ρ).bind _).all _ _ := q
  rw [all_bind] at q
  refine h _ _ _ (mono1 (fun ds hx => ?_) q)
  obtain ⟨a, b⟩ := all_chk.mp hx
  exact ⟨eq_of_beq a, safe_of b, may_of b, mayX_of b⟩
/-- a spec of two kinds: what one says of the row -/
structure RowF (S : Spec) (row : Addr) (f : Fn) : Prop where
  ok : ∀ ds, (f ds).safe → S.pre row ds ∧ (∀ d, S.post row ds d → (f ds).may d) ∧ ∀ x, S.exc row ds x → (f ds).mayX x
theorem r_callS {f : Fn} {S : Spec} {n : Nat} {row : Addr} {TA : TDA} (s : RowF S row f) (h : RL FA' TA) : RE (fCall f n FA') (TCall row S n TA) := by
  intro ρ Q X q
  have q : ((FA' ρ).bind _).all _ _ := q
  rw [all_bind] at q
  refine h _ _ _ (mono1 (fun ds hx => ?_) q)
  obtain ⟨a, b⟩ := all_chk.mp hx
  obtain ⟨h1, h2, h3⟩ := s.ok ds (safe_of b)
  exact ⟨eq_of_beq a, h1, fun d hd => may_of b d (h2 d hd), fun x hx => mayX_of b x (h3 x hx)⟩
def fLenI (f : Fn) (C : Addr) (a : FE) : FE := fun ρ => (a ρ).bind fun d => match d with
  | .ins C' fs => chk (decide (C' = C)) ((f [.ins C' fs]).bind fun r => match r with | .int n => chk (decide (0 ≤ n) && decide (n < 2 ^ 63)) (.ret (.int n)) | _ => .stuck)
  | _ => .stuck
/-- no exception comes of it -/
def noX (f : Fn) : Prop := ∀ ds x, ¬ (f ds).mayX x
def fEqI (f : Fn) (C : Addr) (neg : Bool) (a b : FE) : FE := fun ρ => (a ρ).bind fun x => (b ρ).bind fun y => match x, y with
  | .ins C1 fs, .ins C2 gs => chk (decide (C1 = C) && decide (C2 = C)) ((f [.ins C1 fs, .ins C2 gs]).bind fun r => match r with | .bl c => .ret (.bl (if neg = true then !c else c)) | _ => .stuck)
  | _, _ => .stuck
/-! ### new lists, what is walked -/
def fListL (F : FE) : FL := fun ρ => (F ρ).bind fun d => .ofO (itemsD d)
theorem r_listL (h : RE F T) : RL (fListL F) (TListL T) := by
  intro ρ Q X q
  have q : ((F ρ).bind _).all _ _ := q
  rw [all_bind] at q
  refine h _ _ _ (mono1 (fun d hd => ?_) q)
  obtain ⟨z, e, q⟩ := all_ofO.mp hd
  rw [e]; exact q
def fItems (F : FE) (f : D → Option (List D)) : FL := fun ρ => (F ρ).bind fun d => .ofO (f d)
theorem r_items {f : D → Option (List D)} (h : RE F T) : RL (fItems F f) (TItems T f) := by
  intro ρ Q X q
  have q : ((F ρ).bind _).all _ _ := q
  rw [all_bind] at q
  refine h _ _ _ (mono1 (fun d hd => ?_) q)
  obtain ⟨z, e, q⟩ := all_ofO.mp hd
  rw [e]; exact q
def rng1 : List D → Option (List D)
  | [.int j] => if decide (j ≤ 100000) && decide (-100000 ≤ j) then some (intsD 0 j.toNat) else none
  | _ => none
def fRng1 (A : FL) : FL := fun ρ => (A ρ).bind fun ds => .ofO (rng1 ds)
theorem r_rng1 {TA : TDA} (h : RL FA' TA) : RL (fRng1 FA') (TRng1 TA) := by
  intro ρ Q X q
  have q : ((FA' ρ).bind _).all _ _ := q
  rw [all_bind] at q
  refine h _ _ _ (mono1 (fun ds hd => ?_) q)
  obtain ⟨z, e, q⟩ := all_ofO.mp hd
  match ds, e with
  | [.int j], e =>
    have e : (if decide (j ≤ 100000) && decide (-100000 ≤ j) then some (intsD 0 j.toNat) else none) = some z := e
    split at e
    · rename_i hc
      obtain ⟨c1, c2⟩ := Bool.and_eq_true_iff.mp hc
      cases e
      exact ⟨of_decide_eq_true c1, of_decide_eq_true c2, q⟩
    · cases e
def rng2 : List D → Option (List D)
  | [.int i, .int j] => if decide (-100000 ≤ i) && decide (i ≤ 100000) && decide (j ≤ 100000) && decide (-100000 ≤ j) then some (intsD i (j - i).toNat) else none
  | _ => none
def fRng2 (A : FL) : FL := fun ρ => (A ρ).bind fun ds => .ofO (rng2 ds)
theorem r_rng2 {TA : TDA} (h : RL FA' TA) : RL (fRng2 FA') (TRng2 TA) := by
  intro ρ Q X q
  have q : ((FA' ρ).bind _).all _ _ := q
  rw [all_bind] at q
  refine h _ _ _ (mono1 (fun ds hd => ?_) q)
  obtain ⟨z, e, q⟩ := all_ofO.mp hd
  match ds, e with
  | [.int i, .int j], e =>
    have e : (if decide (-100000 ≤ i) && decide (i ≤ 100000) && decide (j ≤ 100000) && decide (-100000 ≤ j) then some (intsD i (j - i).toNat) else none) = some z := e
    split at e
    · rename_i hc
      obtain ⟨hc, c4⟩ := Bool.and_eq_true_iff.mp hc
      obtain ⟨hc, c3⟩ := Bool.and_eq_true_iff.mp hc
      obtain ⟨c1, c2⟩ := Bool.and_eq_true_iff.mp hc
      cases e
      exact ⟨⟨of_decide_eq_true c1, of_decide_eq_true c2, of_decide_eq_true c3, of_decide_eq_true c4⟩, q⟩
    · cases e
/-! ### targets -/
def hName (i : Nat) : FG := fun d ρ => some (ρ.set i (some (.sh d)))
theorem rg_name {i : Nat} : RG (hName i) (GName i) := fun d ρ P ⟨ρ', e, p⟩ => by cases e; exact p
abbrev FGs := List D → En → Option En
def RGs (F : FGs) (T : TDGs) : Prop := ∀ d ρ P, (∃ ρ', F d ρ = some ρ' ∧ P ρ') → T d ρ P
def hNil : FGs := fun ds ρ => match ds with | [] => some ρ | _ => none
def hCons (G : FG) (Gs : FGs) : FGs := fun ds ρ => match ds with | d :: r => (match G d ρ with | some ρ1 => Gs r ρ1 | none => none) | [] => none
def hTup (Gs : FGs) : FG := fun d ρ => match d with | .tup ds => Gs ds ρ | _ => none
theorem rgs_nil : RGs hNil GsNil := fun d ρ P ⟨ρ', e, p⟩ => by
  cases d with
  | nil => cases e; exact p
  | cons => cases e
theorem rgs_cons {G : FG} {Gs : FGs} {TG : TDG} {TGs' : TDGs} (h : RG G TG) (h' : RGs Gs TGs') : RGs (hCons G Gs) (GsCons TG TGs') := fun d ρ P ⟨ρ', e, p⟩ => by
  cases d with
  | nil => cases e
  | cons d r =>
    have e : (match G d ρ with | some ρ1 => Gs r ρ1 | none => none) = some ρ' := e
    cases e1 : G d ρ with
    | none => rw [e1] at e; cases e
    | some ρ1 =>
      rw [e1] at e
      exact h _ _ _ ⟨ρ1, e1, h' _ _ _ ⟨ρ', e, p⟩⟩
/-- the length that a tuple target asks -/
structure LenG (Gs : FGs) (n : Nat) : Prop where
  len : ∀ ds ρ ρ', Gs ds ρ = some ρ' → ds.length = n
theorem lenG_nil : LenG hNil 0 := ⟨fun ds ρ ρ' e => by cases ds with | nil => rfl | cons => cases e⟩
theorem lenG_cons {G : FG} {Gs : FGs} {n : Nat} (h : LenG Gs n) : LenG (hCons G Gs) (n + 1) := ⟨fun ds ρ ρ' e => by
  cases ds with
  | nil => cases e
  | cons d r =>
    have e : (match G d ρ with | some ρ1 => Gs r ρ1 | none => none) = some ρ' := e
    cases e1 : G d ρ with
    | none => rw [e1] at e; cases e
    | some ρ1 =>
      rw [e1] at e
      rw [List.length_cons, h.len _ _ _ e]⟩
theorem rg_tup {Gs : FGs} {TGs' : TDGs} {n : Nat} (h : RGs Gs TGs') (hn : LenG Gs n) : RG (hTup Gs) (GTup n TGs') := fun d ρ P ⟨ρ', e, p⟩ => by
  cases d with
  | tup ds => exact ⟨hn.len _ _ _ e, h _ _ _ ⟨ρ', e, p⟩⟩
  | _ => cases e
end
end DL
end

section
set_option Elab.async false
set_option linter.all false
set_option maxRecDepth 100000
set_option maxHeartbeats 5000000
namespace DL
open PySem L2
namespace Tm
variable {α β : Type}
def nox : Tm α → Tm α
  | .ret a => .ret a
  | .exc _ => .stuck
  | .stuck => .stuck
  | .any p k => .any p fun d => (k d).nox
@[simp] theorem nox_ret {a : α} : (Tm.ret a).nox = .ret a := rfl
theorem all_nox {Q : α → Prop} {X : XP} : ∀ {t : Tm α}, t.nox.all Q X → t.all Q XF
  | .ret a, h => h
  | .exc x, h => h
  | .stuck, h => h
  | .any p k, h => fun d hd => all_nox (h d hd)
theorem nox_bind : ∀ {t : Tm α} {f : α → Tm β}, (t.bind f).nox = t.nox.bind fun a => (f a).nox
  | .ret a, f => rfl
  | .exc x, f => rfl
  | .stuck, f => rfl
  | .any p k, f => by
    show Tm.any p (fun d => ((k d).bind f).nox) = Tm.any p fun d => (k d).nox.bind fun a => (f a).nox
    congr 1
    funext d
    exact nox_bind
theorem nox_all {Q : α → Prop} {X : XP} : ∀ {t : Tm α}, t.all Q XF → t.nox.all Q X
  | .ret a, h => h
  | .exc x, h => h
  | .stuck, h => h
  | .any p k, h => fun d hd => nox_all (h d hd)
theorem all_self {t : Tm α} (h : t.safe) : t.all t.may t.mayX := all_of h (fun _ h => h) fun _ h => h
end Tm
section
variable {Fa Fb Fc F : FE} {Ta Tb Tc T : TD} {FU FU' : FT} {TU TU' : TDT} {FA' FB' : FL} {U U' : FS} {W W' : TDS}
open Tm
/-! ### statements -/
def fNext : FS := fun ρ => .ret (.nx ρ)
theorem r_next : RS fNext (fun D ρ _ => D.nx ρ) := fun De ρ X h => h
def fSeq (U U' : FS) : FS := fun ρ => (U ρ).bind fun o => match o with | .nx ρ' => U' ρ' | o => .ret o
theorem r_seq (h : RS U W) (h' : RS U' W') : RS (fSeq U U') (TSeq W W') := by
  intro De ρ X q
  have q : ((U ρ).bind _).all _ _ := q
  rw [all_bind] at q
  refine h _ _ _ (mono1 (fun o ho => ?_) q)
  cases o with
  | nx ρ' => exact h' _ _ _ ho
  | rt d => exact ho
  | bk ρ' => exact ho
  | ct ρ' => exact ho
def fSet (i : Nat) (F : FE) : FS := fun ρ => (F ρ).bind fun d => .ret (.nx (ρ.set i (some (.sh d))))
theorem r_set {i : Nat} (h : RE F T) : RS (fSet i F) (TSet i T) := by
  intro De ρ X q
  have q : ((F ρ).bind _).all _ _ := q
  rw [all_bind] at q
  exact h _ _ _ q
def fSetL (i : Nat) (F : FL) : FS := fun ρ => (F ρ).bind fun d => .ret (.nx (ρ.set i (some (.ow d))))
theorem r_setL {i : Nat} {T : TDL} (h : RL FA' T) : RS (fSetL i FA') (TSetL i T) := by
  intro De ρ X q
  have q : ((FA' ρ).bind _).all _ _ := q
  rw [all_bind] at q
  exact h _ _ _ q
def fRet (F : FE) : FS := fun ρ => (F ρ).bind fun d => .ret (.rt d)
theorem r_ret (h : RE F T) : RS (fRet F) (TRet T) := by
  intro De ρ X q
  have q : ((F ρ).bind _).all _ _ := q
  rw [all_bind] at q
  exact h _ _ _ q
def fRetN : FS := fun _ => .ret (.rt .non)
theorem r_retN : RS fRetN (fun D _ _ => D.rt .non) := fun De ρ X h => h
def fIf (c : FT) (U U' : FS) : FS := fun ρ => (c ρ).bind fun k => match k with | true => U ρ | false => U' ρ
theorem r_if (hc : RT FU TU) (h : RS U W) (h' : RS U' W') : RS (fIf FU U U') (TIf TU W W') := by
  intro De ρ X q
  have q : ((FU ρ).bind _).all _ _ := q
  rw [all_bind] at q
  refine hc _ _ _ (mono1 (fun c hc => ?_) q)
  cases c with
  | true => exact h _ _ _ hc
  | false => exact h' _ _ _ hc
def fDrop (F : FE) : FS := fun ρ => (F ρ).bind fun _ => .ret (.nx ρ)
theorem r_drop (h : RE F T) : RS (fDrop F) (TDrop T) := by
  intro De ρ X q
  have q : ((F ρ).bind _).all _ _ := q
  rw [all_bind] at q
  exact h _ _ _ q
def fBrk : FS := fun ρ => .ret (.bk ρ)
theorem r_break : RS fBrk (fun D ρ _ => D.bk ρ) := fun De ρ X h => h
def fCnt : FS := fun ρ => .ret (.ct ρ)
theorem r_continue : RS fCnt (fun D ρ _ => D.ct ρ) := fun De ρ X h => h
def fApp (i : Nat) (F : FE) : FS := fun ρ => match ρ[i]? with
  | some (some (.ow ds)) => (F ρ).bind fun d => chk (ck ds) (.ret (.nx (ρ.set i (some (.ow (ds ++ [d]))))))
  | _ => .stuck
theorem r_app {i : Nat} (h : RE F T) : RS (fApp i F) (TApp i T) := by
  intro De ρ X q
  have q : (fApp i F ρ).all _ _ := q
  unfold fApp at q
  unfold TApp
  split at q
  · rename_i ds e
    try rw [e]
    show T ρ _ X
    rw [all_bind] at q
    refine h _ _ _ (mono1 (fun d hd => ?_) q)
    obtain ⟨a, b⟩ := all_chk.mp hd
    show (match ρ[i]? with
    | some (some (.ow ds)) => ds.length ≤ 100000 ∧ De.nx (ρ.set i (some (.ow (ds ++ [d]))))
    | _ => False)
    rw [e]
    exact ⟨of_decide_eq_true a, b⟩
  · cases q
def fPut (i : Nat) (F Fx : FE) : FS := fun ρ => (F ρ).bind fun d => match ρ[i]? with
  | some (some (.ow ds)) => (Fx ρ).bind fun k => match k with
    | .int j => (match ixN ds.length j with | some n => .ret (.nx (ρ.set i (some (.ow (ds.set n d))))) | none => .stuck)
    | _ => .stuck
  | _ => .stuck
theorem r_put {i : Nat} (h : RE F T) (h' : RE Fb Tb) : RS (fPut i F Fb) (TPut i T Tb) := by
  intro De ρ X q
  have q : ((F ρ).bind _).all _ _ := q
  rw [all_bind] at q
  refine h _ _ _ (mono1 (fun d hd => ?_) q)
  show (match ρ[i]? with
  | some (some (.ow _)) => Tb ρ (fun k ρ2 => match k, ρ2[i]? with
    | .int j, some (some (.ow ds)) => (match ixN ds.length j with | some n => De.nx (ρ2.set i (some (.ow (ds.set n d)))) | none => False)
    | _, _ => False) X
  | _ => False)
  split at hd
  · rename_i ds e
    show Tb ρ _ X
    rw [all_bind] at hd
    refine h' _ _ _ (mono1 (fun k hk => ?_) hd)
    cases k with
    | int j =>
      show (match D.int j, ρ[i]? with
        | .int j, some (some (.ow ds)) => (match ixN ds.length j with | some n => De.nx (ρ.set i (some (.ow (ds.set n d)))) | none => False)
        | _, _ => False)
      rw [e]
      show (match ixN ds.length j with | some n => De.nx (ρ.set i (some (.ow (ds.set n d)))) | none => False)
      cases en : ixN ds.length j with
      | none =>
        have hk : (match ixN ds.length j with | some n => Tm.ret (Oc.nx (ρ.set i (some (DV.ow (ds.set n d))))) | none => .stuck).all (endOf De) X := hk
        rw [en] at hk
        exact hk
      | some n =>
        have hk : (match ixN ds.length j with | some n => Tm.ret (Oc.nx (ρ.set i (some (DV.ow (ds.set n d))))) | none => .stuck).all (endOf De) X := hk
        rw [en] at hk
        exact hk
    | _ => exact hk.elim
  · cases hd
def fAug (i : Nat) (f : Int → Int → Int) (F : FE) : FS := fun ρ => match ρ[i]? with
  | some (some (.sh (.int j))) => (F ρ).bind fun d => match d with | .int k => .ret (.nx (ρ.set i (some (.sh (.int (f j k)))))) | _ => .stuck
  | _ => .stuck
theorem r_aug {i : Nat} {f : Int → Int → Int} (h : RE F T) : RS (fAug i f F) (TAug i f T) := by
  intro De ρ X q
  have q : (fAug i f F ρ).all _ _ := q
  unfold fAug at q
  unfold TAug
  split at q
  · rename_i j e
    try rw [e]
    show T ρ _ X
    rw [all_bind] at q
    refine h _ _ _ (mono1 (fun d hd => ?_) q)
    cases d <;> first | exact hd | exact hd.elim
  · cases q
def fAsg (F : FE) (G : FG) : FS := fun ρ => (F ρ).bind fun d => match G d ρ with | some ρ' => .ret (.nx ρ') | none => .stuck
theorem r_asg {G : FG} {TG : TDG} (h : RE F T) (hg : RG G TG) : RS (fAsg F G) (TAsgG T TG) := by
  intro De ρ X q
  have q : ((F ρ).bind _).all _ _ := q
  rw [all_bind] at q
  refine h _ _ _ (mono1 (fun d hd => ?_) q)
  refine hg _ _ _ ?_
  have hd : (match G d ρ with | some ρ' => Tm.ret (Oc.nx ρ') | none => .stuck).all (endOf De) X := hd
  cases e : G d ρ with
  | none => rw [e] at hd; cases hd
  | some ρ' => rw [e] at hd; exact ⟨ρ', e, hd⟩
def fPar (i j : Nat) (A : FL) : FS := fun ρ => (A ρ).bind fun ds => match ds with
  | [d, e] => .ret (.nx ((ρ.set i (some (.sh d))).set j (some (.sh e))))
  | _ => .stuck
theorem r_par {i j : Nat} {TA : TDA} (h : RL FA' TA) : RS (fPar i j FA') (TPar i j TA) := by
  intro De ρ X q
  have q : ((FA' ρ).bind _).all _ _ := q
  rw [all_bind] at q
  refine h _ _ _ (mono1 (fun ds hd => ?_) q)
  match ds, hd with
  | [d, e], hd => exact hd
def fRaise1 (C : Addr) (f : Str) (A : FL) : FS := fun ρ => (A ρ).bind fun ds => match ds with
  | [d] => chk (msgD d) (.exc ⟨C, [(f, d)]⟩)
  | _ => .stuck
theorem r_raise1 {C : Addr} {f : Str} {TA : TDA} (h : RL FA' TA) : RS (fRaise1 C f FA') (TRaise1 C f TA) := by
  intro De ρ X q
  have q : ((FA' ρ).bind _).all _ _ := q
  rw [all_bind] at q
  refine h _ _ _ (mono1 (fun ds hd => ?_) q)
  match ds, hd with
  | [d], hd =>
    obtain ⟨a, b⟩ := all_chk.mp hd
    exact ⟨a, b⟩
/-! ### for -/
def forL (G : FG) (U : FS) : List D → FS
  | [], ρ => .ret (.nx ρ)
  | d :: ds, ρ => match G d ρ with
    | some ρ1 => (U ρ1).bind fun o => match o with
      | .nx ρ2 => forL G U ds ρ2
      | .ct ρ2 => forL G U ds ρ2
      | .bk ρ2 => .ret (.nx ρ2)
      | .rt d => .ret (.rt d)
    | none => .stuck
def fFor (Fi : FL) (G : FG) (U : FS) : FS := fun ρ => (Fi ρ).bind fun ds => forL G U ds ρ
theorem drop_at {α : Type} {xs : List α} {i : Nat} {x : α} (h : xs[i]? = some x) : xs.drop i = x :: xs.drop (i + 1) := by
  obtain ⟨hi, rfl⟩ := List.getElem?_eq_some_iff.mp h
  exact List.drop_eq_getElem_cons hi
theorem r_for {Fi : FL} {Ti : TDI} {G : FG} {TG : TDG} (hi : RL Fi Ti) (hg : RG G TG) (h : RS U W) : RS (fFor Fi G U) (TFor Ti TG W) := by
  intro De ρ X q
  have q : ((Fi ρ).bind _).all _ _ := q
  rw [all_bind] at q
  refine hi _ _ _ (mono1 (fun ds hd => ?_) q)
  refine ⟨fun i ρ => (forL G U (ds.drop i) ρ).all (endOf De) X, hd, fun i d ρ e hI => ?_, fun ρ hI => ?_⟩
  · have hI : (forL G U (ds.drop i) ρ).all (endOf De) X := hI
    rw [drop_at e] at hI
    refine hg _ _ _ ?_
    have hI : (match G d ρ with
      | some ρ1 => (U ρ1).bind fun o => match o with
        | .nx ρ2 => forL G U (ds.drop (i + 1)) ρ2
        | .ct ρ2 => forL G U (ds.drop (i + 1)) ρ2
        | .bk ρ2 => .ret (.nx ρ2)
        | .rt d => .ret (.rt d)
      | none => .stuck).all (endOf De) X := hI
    cases e1 : G d ρ with
    | none => rw [e1] at hI; cases hI
    | some ρ1 =>
      rw [e1] at hI
      have hI : ((U ρ1).bind _).all _ _ := hI
      rw [all_bind] at hI
      refine ⟨ρ1, e1, h _ _ _ (mono1 (fun o ho => ?_) hI)⟩
      cases o <;> exact ho
  · have hI : (forL G U (ds.drop ds.length) ρ).all (endOf De) X := hI
    rw [List.drop_length] at hI
    exact hI
/-! ### comprehensions -/
def lcL (G : FG) (TU : FT) (T : FE) (ρ : En) : List D → Tm (List D)
  | [] => .ret []
  | d :: ds => match G d ρ with
    | some ρ2 => (TU ρ2).bind fun b => match b with
      | true => (T ρ2).bind fun y => (lcL G TU T ρ ds).bind fun r => .ret (y :: r)
      | false => lcL G TU T ρ ds
    | none => .stuck
def fYes : FT := fun _ => .ret true
theorem r_yes : RT fYes TYes := fun ρ Q X h => h
def fLc (Fi : FL) (G : FG) (TU : FT) (T : FE) (vs : List Nat) : FL := fun ρ => (Fi ρ).bind fun ds => chk (noOw vs ρ && ck ds) (lcL G TU T (wipeD ρ vs) ds).nox
theorem r_lc {Fi : FL} {Ti : TDI} {G : FG} {TG : TDG} {vs : List Nat} (hi : RL Fi Ti) (hg : RG G TG) (ht : RT FU TU) (he : RE F T) : RL (fLc Fi G FU F vs) (TLc Ti TG TU T vs) := by
  intro ρ Q X q
  have q : ((Fi ρ).bind _).all _ _ := q
  rw [all_bind] at q
  refine hi _ _ _ (mono1 (fun ds hd => ?_) q)
  obtain ⟨a, hd⟩ := all_chk.mp hd
  obtain ⟨a1, a2⟩ := Bool.and_eq_true_iff.mp a
  have a2 := of_decide_eq_true a2
  have hd := all_nox hd
  refine ⟨a1, fun i acc => acc.length ≤ i ∧ (lcL G FU F (wipeD ρ vs) (ds.drop i)).all (fun r => Q (acc ++ r) ρ) XF, ⟨Nat.zero_le _, hd⟩, fun i d acc e hI => ?_, fun acc hI => ?_⟩
  · obtain ⟨hl, hI⟩ := hI
    have hlt : i < ds.length := (List.getElem?_eq_some_iff.mp e).1
    rw [drop_at e] at hI
    refine hg _ _ _ ?_
    have hI : (match G d (wipeD ρ vs) with
      | some ρ2 => (FU ρ2).bind fun b => match b with
        | true => (F ρ2).bind fun y => (lcL G FU F (wipeD ρ vs) (ds.drop (i + 1))).bind fun r => .ret (y :: r)
        | false => lcL G FU F (wipeD ρ vs) (ds.drop (i + 1))
      | none => .stuck).all (fun r => Q (acc ++ r) ρ) XF := hI
    cases e1 : G d (wipeD ρ vs) with
    | none => rw [e1] at hI; cases hI
    | some ρ2 =>
      rw [e1] at hI
      have hI : ((FU ρ2).bind _).all _ _ := hI
      rw [all_bind] at hI
      refine ⟨ρ2, e1, ht _ _ _ (mono1 (fun b hb => ?_) hI)⟩
      refine ⟨rfl, ?_⟩
      cases b with
      | false =>
        rw [if_neg (by decide)]
        exact ⟨by omega, hb⟩
      | true =>
        rw [if_pos rfl]
        have hb : ((F ρ2).bind _).all _ _ := hb
        rw [all_bind] at hb
        refine he _ _ _ (mono1 (fun y hy => ?_) hb)
        rw [all_bind] at hy
        refine ⟨rfl, by omega, by rw [List.length_append]; simp; omega, mono1 (fun r hr => ?_) hy⟩
        rw [List.append_assoc]
        exact hr
  · obtain ⟨hl, hI⟩ := hI
    rw [List.drop_length] at hI
    have hI : Q (acc ++ []) ρ := hI
    rw [List.append_nil] at hI
    exact hI
def lcL2 (G : FG) (TU : FT) (Fi1 : FL) (G1 : FG) (TU1 : FT) (T : FE) (vs1 : List Nat) (ρ : En) : List D → Tm (List D)
  | [] => .ret []
  | d :: ds => match G d ρ with
    | some ρ2 => (TU ρ2).bind fun b => match b with
      | true => (Fi1 ρ2).bind fun es => chk (noOw vs1 ρ2 && decide (es.length ≤ 1000)) ((lcL G1 TU1 T (wipeD ρ2 vs1) es).bind fun r1 => (lcL2 G TU Fi1 G1 TU1 T vs1 ρ ds).bind fun r => .ret (r1 ++ r))
      | false => lcL2 G TU Fi1 G1 TU1 T vs1 ρ ds
    | none => .stuck
def fLc2 (Fi : FL) (G : FG) (TU : FT) (Fi1 : FL) (G1 : FG) (TU1 : FT) (T : FE) (vs vs1 : List Nat) : FL := fun ρ => (Fi ρ).bind fun ds =>
  chk (noOw vs ρ && decide (ds.length ≤ 99)) (lcL2 G TU Fi1 G1 TU1 T vs1 (wipeD ρ vs) ds).nox
theorem r_lc2 {Fi Fi1 : FL} {Ti Ti1 : TDI} {G G1 : FG} {TG TG1 : TDG} {vs vs1 : List Nat} {FU1 : FT} {TU1 : TDT} (hi : RL Fi Ti) (hg : RG G TG) (ht : RT FU TU) (hi1 : RL Fi1 Ti1) (hg1 : RG G1 TG1) (ht1 : RT FU1 TU1) (he : RE F T) :
    RL (fLc2 Fi G FU Fi1 G1 FU1 F vs vs1) (TLc2 Ti TG TU Ti1 TG1 TU1 T vs vs1) := by
  intro ρ Q X q
  have q : ((Fi ρ).bind _).all _ _ := q
  rw [all_bind] at q
  refine hi _ _ _ (mono1 (fun ds hd => ?_) q)
  obtain ⟨a, hd⟩ := all_chk.mp hd
  obtain ⟨a1, a2⟩ := Bool.and_eq_true_iff.mp a
  have a2 := of_decide_eq_true a2
  have hd := all_nox hd
  refine ⟨a1, fun i acc => acc.length ≤ i * 1000 ∧ (lcL2 G FU Fi1 G1 FU1 F vs1 (wipeD ρ vs) (ds.drop i)).all (fun r => Q (acc ++ r) ρ) XF, ⟨Nat.zero_le _, hd⟩, fun i d acc e hI => ?_, fun acc hI => ?_⟩
  · obtain ⟨hl, hI⟩ := hI
    have hlt : i < ds.length := (List.getElem?_eq_some_iff.mp e).1
    rw [drop_at e] at hI
    refine hg _ _ _ ?_
    have hI : (match G d (wipeD ρ vs) with
      | some ρ2 => (FU ρ2).bind fun b => match b with
        | true => (Fi1 ρ2).bind fun es => chk (noOw vs1 ρ2 && decide (es.length ≤ 1000)) ((lcL G1 FU1 F (wipeD ρ2 vs1) es).bind fun r1 => (lcL2 G FU Fi1 G1 FU1 F vs1 (wipeD ρ vs) (ds.drop (i + 1))).bind fun r => .ret (r1 ++ r))
        | false => lcL2 G FU Fi1 G1 FU1 F vs1 (wipeD ρ vs) (ds.drop (i + 1))
      | none => .stuck).all (fun r => Q (acc ++ r) ρ) XF := hI
    cases e1 : G d (wipeD ρ vs) with
    | none => rw [e1] at hI; cases hI
    | some ρ2 =>
      rw [e1] at hI
      have hI : ((FU ρ2).bind _).all _ _ := hI
      rw [all_bind] at hI
      refine ⟨ρ2, e1, ht _ _ _ (mono1 (fun b hb => ?_) hI)⟩
      refine ⟨rfl, ?_⟩
      cases b with
      | false =>
        rw [if_neg (by decide)]
        exact ⟨by omega, hb⟩
      | true =>
        rw [if_pos rfl]
        have hb : ((Fi1 ρ2).bind _).all _ _ := hb
        rw [all_bind] at hb
        refine hi1 _ _ _ (mono1 (fun es hes => ?_) hb)
        obtain ⟨b1, hes⟩ := all_chk.mp hes
        obtain ⟨b1, b2⟩ := Bool.and_eq_true_iff.mp b1
        have b2 := of_decide_eq_true b2
        rw [all_bind] at hes
        refine ⟨rfl, b1, fun j acc1 => acc1.length ≤ i * 1000 + j ∧ (lcL G1 FU1 F (wipeD ρ2 vs1) (es.drop j)).all (fun r1 => (lcL2 G FU Fi1 G1 FU1 F vs1 (wipeD ρ vs) (ds.drop (i + 1))).all (fun r => Q (acc1 ++ r1 ++ r) ρ) XF) XF, ⟨hl, mono1 (fun r1 h1 => ?_) hes⟩, fun j d1 acc1 e2 hI => ?_, fun acc1 hI => ?_⟩
        · rw [all_bind] at h1
          refine mono1 (fun r hr => ?_) h1
          rw [List.append_assoc]
          exact hr
        · obtain ⟨hl1, hI⟩ := hI
          have hlt1 : j < es.length := (List.getElem?_eq_some_iff.mp e2).1
          rw [drop_at e2] at hI
          refine hg1 _ _ _ ?_
          have hI : (match G1 d1 (wipeD ρ2 vs1) with
            | some ρ2' => (FU1 ρ2').bind fun b => match b with
              | true => (F ρ2').bind fun y => (lcL G1 FU1 F (wipeD ρ2 vs1) (es.drop (j + 1))).bind fun r => .ret (y :: r)
              | false => lcL G1 FU1 F (wipeD ρ2 vs1) (es.drop (j + 1))
            | none => .stuck).all (fun r1 => (lcL2 G FU Fi1 G1 FU1 F vs1 (wipeD ρ vs) (ds.drop (i + 1))).all (fun r => Q (acc1 ++ r1 ++ r) ρ) XF) XF := hI
          cases e3 : G1 d1 (wipeD ρ2 vs1) with
          | none => rw [e3] at hI; cases hI
          | some ρ5 =>
            rw [e3] at hI
            have hI : ((FU1 ρ5).bind _).all _ _ := hI
            rw [all_bind] at hI
            refine ⟨ρ5, e3, ht1 _ _ _ (mono1 (fun b hb => ?_) hI)⟩
            refine ⟨rfl, ?_⟩
            cases b with
            | false =>
              rw [if_neg (by decide)]
              exact ⟨by omega, hb⟩
            | true =>
              rw [if_pos rfl]
              have hb : ((F ρ5).bind _).all _ _ := hb
              rw [all_bind] at hb
              refine he _ _ _ (mono1 (fun y hy => ?_) hb)
              rw [all_bind] at hy
              refine ⟨rfl, by omega, by rw [List.length_append]; simp; omega, mono1 (fun r hr => ?_) hy⟩
              have hr : (lcL2 G FU Fi1 G1 FU1 F vs1 (wipeD ρ vs) (ds.drop (i + 1))).all (fun r' => Q (acc1 ++ (y :: r) ++ r') ρ) XF := hr
              refine mono1 (fun r' hr' => ?_) hr
              rw [List.append_assoc acc1 [y] r]
              exact hr'
        · obtain ⟨hl1, hI⟩ := hI
          rw [List.drop_length] at hI
          have hI : (lcL2 G FU Fi1 G1 FU1 F vs1 (wipeD ρ vs) (ds.drop (i + 1))).all (fun r => Q (acc1 ++ [] ++ r) ρ) XF := hI
          rw [List.append_nil] at hI
          exact ⟨by omega, hI⟩
  · obtain ⟨hl, hI⟩ := hI
    rw [List.drop_length] at hI
    have hI : Q (acc ++ []) ρ := hI
    rw [List.append_nil] at hI
    exact hI
/-! ### freezing ahead of a statement -/
def frzD : List Nat → En → En
  | [], ρ => ρ
  | i :: is, ρ => match ρ[i]? with
    | some (some (.ow ds)) => frzD is (frz i ds ρ)
    | _ => frzD is ρ
def TFrz (is : List Nat) (W : TDS) : TDS := fun De ρ X => W De (frzD is ρ) X
def fFrz (is : List Nat) (U : FS) : FS := fun ρ => U (frzD is ρ)
theorem r_frz {is : List Nat} (h : RS U W) : RS (fFrz is U) (TFrz is W) := fun De ρ X q => h De (frzD is ρ) X q
theorem rep_frzD {K : PySem.W.Frag} {M : Mt K} {H0 H : Hp} {σ : L2.St} : ∀ {is : List Nat} {ρ : En}, Rep M H0 ρ σ H → Rep M H0 (frzD is ρ) σ H
  | [], ρ, R => R
  | i :: is, ρ, R => by
    unfold frzD
    split
    · rename_i ds e
      obtain ⟨q, xs, _, _, _, _, R'⟩ := R.freeze e
      exact rep_frzD R'
    · exact rep_frzD R
theorem ds_frz {Γ : Ga} {st : Stmt} (is : List Nat) (h : DS Γ st W) : DS Γ st (TFrz is W) :=
  let ⟨t, p, s⟩ := h; ⟨t, p, fun M H0 ρ σ H D0 D' PX R L k q => s M H0 (frzD is ρ) σ H D0 D' PX (rep_frzD R) L k q⟩
/-! ### defs -/
def fDef (n : Nat) (U : FS) : Fn := fun ds => (U (env0 n ds)).bind fun o => match o with | .nx _ => .ret .non | .rt d => .ret d | _ => .stuck
def specR (f : Addr → Fn) : Spec := { pre := fun row ds => (f row ds).safe, post := fun row ds r => (f row ds).may r, exc := fun row ds x => (f row ds).mayX x }
theorem r_lenI {f : Addr → Fn} {C row : Addr} (nx : noX (f row)) (ha : RE Fa Ta) : RE (fLenI (f row) C Fa) (TLenI row (specR f) C Ta) := by
  intro ρ Q X q
  have q : ((Fa ρ).bind _).all _ _ := q
  rw [all_bind] at q
  refine ha _ _ _ (mono1 (fun d hx => ?_) q)
  cases d with
  | ins C' fs =>
    obtain ⟨a, b⟩ := all_chk.mp hx
    rw [all_bind] at b
    refine ⟨of_decide_eq_true a, safe_of b, fun r hr => ?_, nx _⟩
    have b := may_of b r hr
    cases r with
    | int n =>
      obtain ⟨c, q⟩ := all_chk.mp b
      obtain ⟨c1, c2⟩ := Bool.and_eq_true_iff.mp c
      exact ⟨n, rfl, of_decide_eq_true c1, of_decide_eq_true c2, q⟩
    | _ => exact b.elim
  | _ => exact hx.elim
theorem r_eqI {f : Addr → Fn} {C row : Addr} {neg : Bool} (nx : noX (f row)) (ha : RE Fa Ta) (hb : RE Fb Tb) : RE (fEqI (f row) C neg Fa Fb) (TEqI row (specR f) C neg Ta Tb) := by
  intro ρ Q X q
  have q : ((Fa ρ).bind _).all _ _ := q
  rw [all_bind] at q
  refine ha _ _ _ (mono1 (fun x hx => ?_) q)
  rw [all_bind] at hx
  refine hb _ _ _ (mono1 (fun y hy => ?_) hx)
  cases x <;> first | exact hy.elim | skip
  cases y <;> first | exact hy.elim | skip
  obtain ⟨a, b⟩ := all_chk.mp hy
  obtain ⟨a1, a2⟩ := Bool.and_eq_true_iff.mp a
  rw [all_bind] at b
  refine ⟨of_decide_eq_true a1, of_decide_eq_true a2, safe_of b, fun r hr => ?_, nx _⟩
  have b := may_of b r hr
  cases r <;> first | exact ⟨_, rfl, b⟩ | exact b.elim
theorem rowF (f : Addr → Fn) (row : Addr) : RowF (specR f) row (f row) := ⟨fun ds h => ⟨h, fun _ h => h, fun _ h => h⟩⟩
theorem fDef_ends {n : Nat} {ds : List D} (h : RS U W) (s : (fDef n U ds).safe) :
    W { nx := fun _ => (fDef n U ds).may .non, rt := (fDef n U ds).may, bk := fun _ => False, ct := fun _ => False } (env0 n ds) (fDef n U ds).mayX := by
  refine h _ _ _ ?_
  have s2 : ((U (env0 n ds)).bind _).all (fDef n U ds).may (fDef n U ds).mayX := all_self s
  rw [all_bind] at s2
  refine mono1 (fun o ho => ?_) s2
  cases o <;> exact ho
end
section
open PyProof.Rows
variable {Γ : Ga} {st : Stmt}
theorem fdef_ok {k n : Nat} {x qual : Str} {f : Addr} {fd : FuncData} {N ps : List Str} {U : Addr → FS} {W : Addr → TDS} (F : Fun Γ.K x qual st f fd) (sc : FnScope N ps (defScope st)) (hn : ps.length = n) (hT : ∀ E : XR, DSs (gaOf Γ k N st E) (defBody st) (W E.row))
    (hr : ∀ row, RS (U row) (W row)) (hm : Γ.mg x = some (.ref f)) (hb : Binds Γ.K fd ps []) : DefOk Γ (k + 1) x n (specR fun row => fDef N.length (U row)) :=
  def_ok F sc hn hT (fun row ds _ hp => fDef_ends (hr row) hp) hm hb
end
end DL
end

section
set_option Elab.async false
set_option linter.all false
set_option maxRecDepth 100000
set_option maxHeartbeats 5000000
namespace DL
open PySem L2 PyProof.Rows
section
variable {Γ : Ga} {X : Cx} {K : PySem.W.Frag} {M : Mt K} {PX : XP} {a b c e o : Expr} {es : List Expr} {Ta Tb To T : TD} {TA : TDA} {pos cpos apos : Pos} {E : XR} {H0 H H' : Hp} {ρ ρ' : En} {σ σ' : L2.St}
/-! ### a built-in class's method -/
def SimM (K : PySem.W.Frag) (T : String) (r : V → List V → Hp → VK → Prop) (ok : D → Bool) (g : D → List D → (D → Prop) → Prop) : Prop :=
  (∀ (N : Addr → Prop) (H : Hp) (x : V) (dx : D), Rp N K H dx x → ok dx = true → tyV K T x H) ∧
  ∀ (M : Mt K) (N : Addr → Prop) (H : Hp) (x : V) (vs : List V) (dx : D) (ds : List D) (Q : VK) (P : D → Prop), M.inv H → (∀ a, N a → H a ≠ none) → (∀ a, M.dom a → N a) → Rp N K H dx x → Rps N K H ds vs → g dx ds P →
    (∀ dz z H', P dz → M.inv H' → Ex M H H' → Rp N K H' dz z → Q z H') → r x vs H Q
def TMeth (ok : D → Bool) (g : D → List D → (D → Prop) → Prop) (To : TD) (A : TDA) : TD := fun ρ Q X => To ρ (fun x ρ1 => ok x = true ∧ A ρ1 (fun ds ρ2 => g x ds fun d => Q d ρ2) X) X
theorem sim_meth {T : String} {r : V → List V → Hp → VK → Prop} {ok : D → Bool} {g : D → List D → (D → Prop) → Prop} {to : TE} {t : L2.TA} (hr : SimM K T r ok g) (ho : Sim K E to To) (h : SimA K E t TA) : Sim K E (tBM K T r to t) (TMeth ok g To TA) := fun M H0 ρ σ H Q Q' PX R L q k =>
  ho M H0 ρ σ H _ _ PX R L q fun dx ρ1 x H1 ⟨hok, q1⟩ R1 e1 o1 r1 => ⟨hr.1 _ _ _ _ r1 hok, h M H0 ρ1 σ H1 _ _ PX R1 L q1 fun ds ρ2 vs H2 q2 R2 e2 o2 r2 =>
    hr.2 M (Nx M ρ2 σ) H2 x vs dx ds _ _ R2.inv (fun a z => R2.there z) (fun a z => .inl z) (r1.tr (tr_own o2 e2)) r2 q2 fun dz z H3 pz i3 e3 r3 => k dz ρ2 z H3 pz (R2.grow i3 e3) ((e1.trans e2).trans e3) (fun q z => o1 q (o2 q z)) r3⟩
theorem de_meth {T id : String} {name : Str} {r : V → List V → Hp → VK → Prop} {ok : D → Bool} {g : D → List D → (D → Prop) → Prop} (pl : PlainAttrs T) (slot : Slot T name id) (hty : typeOf (.builtin id) = pure (.type "method_descriptor")) (hm : ∀ X : Cx, OkX Γ X → MtR X id r) (hr : SimM Γ.K T r ok g) (ho : DEx Γ o To) (ha : DAx Γ (e :: es) TA)
    (hbase : ∀ env : Env, attributeBase o name env (eval o env) = eval o env := by intro _; rfl)
    (hfew : ∀ env : Env, ((backTo cpos (starEach (e :: es) env)).all (fun x => !x.1) && (backToKw cpos (keywordEach [] env)).all (fun x => x.1.isSome)
      && decide ((e :: es).length + ([] : List Keyword).length + (if ([] : List Keyword).isEmpty then 0 else 1) < 30)) = true := by intro _; rfl)
    (hline : (apos.endLine == cpos.line) = true := by rfl) (hs : ∀ env : Env, starEach (e :: es) env = (false, eval e env) :: starEach es env := by intro _; rfl) (hplain : ∀ env : Env, (backTo cpos (starEach es env)).any (·.1) = false := by intro _; rfl) :
    DEx Γ (.Call (.Attribute o name apos) (e :: es) [] cpos) (TMeth ok g To TA) := by
  obtain ⟨to, po, so⟩ := ho
  obtain ⟨t, pa, sa⟩ := ha
  exact ⟨_, fun X h => by rw [← h.K]; exact pe_bm pl slot hty (hm X h) (po X h) (pa X h) (hbase _) (hfew _) hline (hs _) (hplain _), sim_meth hr so sa⟩
def isLst : D → Bool | .lst _ => true | _ => false
theorem ty_lst {N : Addr → Prop} {H : Hp} {x : V} {d : D} (r : Rp N K H d x) (h : isLst d = true) : tyV K "list" x H := by
  cases r <;> first | (cases h; done) | skip
  rename_i q rr
  exact .inl ⟨rfl, _, q.sq⟩
/-- xs.count(y), xs.index(y), flat things -/
def cntD (xs : List D) (y : D) : Nat := xs.countP fun z => eqF z y
def gCount : D → List D → (D → Prop) → Prop := fun x ds P => match x, ds with
  | .lst xs, [y] => flatD y = true ∧ xs.all flatD = true ∧ P (.int (cntD xs y))
  | _, _ => False
theorem Rps.cnt {N : Addr → Prop} {H : Hp} {y : D} {w : V} (r : Rp N K H y w) (h : flatD y = true) : ∀ {ds : List D} {vs : List V}, Rps N K H ds vs → ds.all flatD = true → vs.countP (fun z => eqV z w) = cntD ds y
  | _, _, .nil, _ => rfl
  | _, _, .cons (d := d) (ds := ds) q rr, c => by
    rw [List.all_cons, Bool.and_eq_true_iff] at c
    have e := Rps.cnt r h rr c.2
    show _ = (d :: ds).countP _
    rw [List.countP_cons, List.countP_cons, e, q.eqF r c.1 h]
    rfl
theorem simm_count : SimM K "list" (rCountF K) isLst gCount := by
  refine ⟨fun N H x d r h => ty_lst r h, fun M N H x vs dx ds Q P hi hn hd r rs g k => ?_⟩
  cases dx <;> first | exact (show False from g).elim | skip
  match ds, g with
  | [y], g =>
    obtain ⟨h1, h2, p⟩ := g
    cases r with
    | lst q rr =>
      cases rs with
      | cons ry rn =>
        cases rn
        exact ⟨_, _, _, rfl, rfl, q.sq, ry.flat h1, rr.flat h2, k _ _ _ p hi Ex.refl (by rw [Rps.cnt ry h1 rr h2]; exact .int _)⟩
theorem de_count (ho : DEx Γ o To) (ha : DEx Γ e Ta) (hbase : ∀ env : Env, attributeBase o "count" env (eval o env) = eval o env := by intro _; rfl)
    (hfew : ∀ env : Env, ((backTo cpos (starEach [e] env)).all (fun x => !x.1) && (backToKw cpos (keywordEach [] env)).all (fun x => x.1.isSome)
      && decide ([e].length + ([] : List Keyword).length + (if ([] : List Keyword).isEmpty then 0 else 1) < 30)) = true := by intro _; rfl)
    (hline : (apos.endLine == cpos.line) = true := by rfl) (hs : ∀ env : Env, starEach [e] env = (false, eval e env) :: starEach [] env := by intro _; rfl) :
    DEx Γ (.Call (.Attribute o "count" apos) [e] [] cpos) (TMeth isLst gCount To (TCons Ta TNil)) :=
  de_meth PySem.F.plainAttrs_list PySem.F.slot_list_count PySem.F.type_list_count (fun X h => by rw [← h.K]; exact mt_countF) simm_count ho (da_cons ha da_nil hs) hbase hfew hline hs fun _ => rfl
/-- the first place -/
def idxD (xs : List D) (y : D) : Option Nat := xs.findIdx? fun z => eqF z y
def gIndex : D → List D → (D → Prop) → Prop := fun x ds P => match x, ds with
  | .lst xs, [y] => flatD y = true ∧ xs.all flatD = true ∧ ∃ j, idxD xs y = some j ∧ P (.int (j : Nat))
  | _, _ => False
theorem simm_index : SimM K "list" (rIndex K) isLst gIndex := by
  refine ⟨fun N H x d r h => ty_lst r h, fun M N H x vs dx ds Q P hi hn hd r rs g k => ?_⟩
  cases dx <;> first | exact (show False from g).elim | skip
  match ds, g with
  | [y], g =>
    obtain ⟨h1, h2, j, hj, p⟩ := g
    cases r with
    | lst q rr =>
      cases rs with
      | cons ry rn =>
        cases rn
        obtain ⟨hl, h3, h4⟩ := List.findIdx?_eq_some_iff_getElem.mp hj
        obtain ⟨v, ev, rv⟩ := rr.getD (List.getElem?_eq_getElem hl)
        have fl : ∀ d ∈ _, flatD d = true := List.all_eq_true.mp h2
        refine ⟨_, _, _, j, v, rfl, rfl, q.sq, ry.flat h1, rr.flat h2, ev, by rw [rv.eqF ry (fl _ (List.getElem_mem hl)) h1]; exact h3, fun m z hm hz => ?_, k _ _ _ p hi Ex.refl (.int _)⟩
        obtain ⟨d, ed, rd⟩ := rr.get hz
        rw [rd.eqF ry (fl _ (List.mem_of_getElem? ed)) h1]
        have hml : m < _ := (List.getElem?_eq_some_iff.mp ed).1
        have := h4 m hm
        rw [List.getElem?_eq_getElem hml] at ed
        rw [← Option.some.inj ed]
        simpa using this
theorem de_index (ho : DEx Γ o To) (ha : DEx Γ e Ta) (hbase : ∀ env : Env, attributeBase o "index" env (eval o env) = eval o env := by intro _; rfl)
    (hfew : ∀ env : Env, ((backTo cpos (starEach [e] env)).all (fun x => !x.1) && (backToKw cpos (keywordEach [] env)).all (fun x => x.1.isSome)
      && decide ([e].length + ([] : List Keyword).length + (if ([] : List Keyword).isEmpty then 0 else 1) < 30)) = true := by intro _; rfl)
    (hline : (apos.endLine == cpos.line) = true := by rfl) (hs : ∀ env : Env, starEach [e] env = (false, eval e env) :: starEach [] env := by intro _; rfl) :
    DEx Γ (.Call (.Attribute o "index" apos) [e] [] cpos) (TMeth isLst gIndex To (TCons Ta TNil)) :=
  de_meth PySem.F.plainAttrs_list PySem.F.slot_list_index PySem.F.type_list_index (fun X h => by rw [← h.K]; exact mt_index) simm_index ho (da_cons ha da_nil hs) hbase hfew hline hs fun _ => rfl
end
/-! ### the exception that a suite holds -/
/-- where a suite stands that holds h -/
def IsHot (h : Hot) (X : Cx) : Prop := ∃ (Y : Cx) (oe : Obj) (pn : List (Addr × Obj)), X = Y.suite h.a ((h.a, oe) :: pn) ∧ Zc (.ref h.C) h.d oe ∧ ∃ vs, oe.data = .fields vs
section
variable {Γ : Ga} {X : Cx} {e : Expr} {pos p p2 pe : Pos} {h : Hot}
/-- isinstance(e, x), e in the slot i; x known: b -/
def TIsH (h : Hot) (i : Nat) (b : Bool) : TD := fun ρ Q _ => ρ[i]? = some (some (.sh (.ref h.a))) ∧ Q (.bl b) ρ
def rIsHot (h : Hot) (v : V) (b : Bool) : List V → Hp → VK → Prop := fun xs H Q => xs = [.ref h.a, v] ∧ (∀ dx, h.d = some dx → H dx = some (.xd h.fs)) ∧ Q (.bl b) H
theorem call_isHot {v : V} {u : Value} {b : Bool} (hx : IsHot h X) (cl : ExcC X.K h.C) (ru : ∀ u', RelV v u' → u' = u) (hk : PySem.W.kitOne X.K (.ref h.C) u = some b) (hf : h.d = none ∨ ∃ f w, h.fs = [(f, w)]) : CallR X (.builtin "isinstance") (rIsHot h v b) := by
  obtain ⟨Y, oe, pn, rfl, z, fl⟩ := hx
  intro pins s σ H vs us Q I r q
  obtain ⟨rfl, hd, q⟩ := q
  cases e : h.d with
  | none =>
    rw [e] at z
    exact call_isE (X := Y) cl z fl pins s σ H _ us Q I r ⟨_, _, b, rfl, ru, hk, q⟩
  | some dx =>
    rw [e] at z
    rcases hf with hf | ⟨f, w, hf⟩
    · rw [e] at hf; cases hf
    · exact call_isF (X := Y) (f := f) (v := w) cl z fl pins s σ H _ us Q I r ⟨_, _, b, rfl, ru, hk, by rw [← hf]; exact hd dx e, q⟩
theorem de_isH (i : Nat) {n x : Str} {v : V} {u : Value} {b : Bool} (hh : Γ.E.hot = some h) (hx : ∀ X, OkX Γ X → IsHot h X) (cl : ExcC Γ.K h.C) (hp : ∀ X, OkX Γ X → PE X (.Name x p2) (tC v)) (ru : ∀ u', RelV v u' → u' = u) (hk : PySem.W.kitOne Γ.K (.ref h.C) u = some b) (hf : h.d = none ∨ ∃ f w, h.fs = [(f, w)])
    (hg : GlB Γ "isinstance") (hm : Γ.mg "isinstance" = none) (hN : Γ.N[i]? = some n := by rfl) (hv : Vis Γ.sc n := by first | exact Or.inl rfl | exact Or.inr (Or.inl rfl) | exact Or.inr (Or.inr rfl)) (hd : (n == ("__debug__" : Str)) = false := by decide) (hcd : (n == ("__classdict__" : Str)) = false := by decide)
    (he : ∀ env : Env, starEach [.Name n pe, .Name x p2] env = (false, eval (.Name n pe) env) :: starEach [.Name x p2] env := by intro _; rfl) (he2 : ∀ env : Env, starEach [.Name x p2] env = (false, eval (.Name x p2) env) :: starEach [] env := by intro _; rfl) (hpl : ∀ env : Env, (backTo pos (starEach [.Name x p2] env)).any (·.1) = false := by intro _; rfl) :
    DEx Γ (.Call (.Name "isinstance" p) [.Name n pe, .Name x p2] [] pos) (TIsH h i b) := by
  refine ⟨_, fun X o => pe_callB (call_isHot (hx X o) (by rw [o.K]; exact cl) ru (by rw [o.K]; exact hk) hf) (o.gl hg) (by rw [o.mg]; exact hm) (by decide +kernel) (pa_cons (pe_var (i := i) (by rw [o.N]; exact hN) (by rw [o.sc]; exact hv) hd hcd) (pa_cons (hp X o) pa_nil (he2 _)) (he _)) (by decide) (by decide) (he _) (hpl _), fun M H0 ρ σ H Q Q' PX R L q k => ?_⟩
  obtain ⟨e1, q⟩ := q
  obtain ⟨w, ew, rw_⟩ := R.sh i _ e1
  cases rw_
  have hl : HotL M (some h) := by rw [← hh]; exact L.1.2.2
  exact ⟨_, ew, rfl, fun dx ed => hl dx ed H R.inv, k _ _ _ H q R Ex.refl (fun _ z => z) (.bl b)⟩
/-- e.f, the one field -/
def TErrH (h : Hot) (i : Nat) (d : D) : TD := fun ρ Q _ => ρ[i]? = some (some (.sh (.ref h.a))) ∧ Q d ρ
theorem de_errH (i : Nat) {n f : Str} {w : V} {dx : Addr} (d : D) (hh : Γ.E.hot = some h) (hx : ∀ X, OkX Γ X → IsHot h X) (cl : ExcC Γ.K h.C) (na : PySem.W.findIn Γ.K (.ref h.C) f = some none) (hd : h.d = some dx) (hf : h.fs = [(f, w)]) (rd : ∀ N H, Rp N Γ.K H d w)
    (hN : Γ.N[i]? = some n := by rfl) (hv : Vis Γ.sc n := by first | exact Or.inl rfl | exact Or.inr (Or.inl rfl) | exact Or.inr (Or.inr rfl)) (hdb : (n == ("__debug__" : Str)) = false := by decide) (hcd : (n == ("__classdict__" : Str)) = false := by decide)
    (hab : ∀ env : Env, attributeBase (.Name n pe) f env (eval (.Name n pe) env) = eval (.Name n pe) env := by intro _; rfl) :
    DEx Γ (.Attribute (.Name n pe) f pos) (TErrH h i d) := by
  refine ⟨tErrF h.C h.a dx f w (tVar i), fun X o => ?_, fun M H0 ρ σ H Q Q' PX R L q k => ?_⟩
  · obtain ⟨Y, oe, pn, rfl, z, fl⟩ := hx X o
    rw [hd] at z
    have pv : PE (Y.suite h.a ((h.a, oe) :: pn)) (.Name n pe) (tVar i) := pe_var (by rw [o.N]; exact hN) (by rw [o.sc]; exact hv) hdb hcd
    exact pe_errF (X := Y) (by have := o.K; rw [show Y.K = Γ.K from this]; exact cl) (by have := o.K; rw [show Y.K = Γ.K from this]; exact na) z fl pv (hab _)
  · obtain ⟨e1, q⟩ := q
    obtain ⟨u, ew, rw_⟩ := R.sh i _ e1
    cases rw_
    have hl : HotL M (some h) := by rw [← hh]; exact L.1.2.2
    have h1 := hl dx hd H R.inv
    rw [hf] at h1
    exact ⟨_, ew, rfl, h1, k _ _ _ H q R Ex.refl (fun _ z => z) (rd _ _)⟩
end
end DL
end

section
set_option Elab.async false
set_option linter.all false
set_option maxRecDepth 100000
set_option maxHeartbeats 5000000
namespace DL
open PySem L2 LamX PyProof.Rows
/-! ### word(lambda: body): what the body gives is None, what it raises a word for it -/
/-- flat data as a value -/
def toV : D → Option V
  | .non => some .non
  | .bl b => some (.bl b)
  | .int i => some (.int i)
  | .str cs => some (.str (S cs))
  | _ => none
theorem Rp.toV {N : Addr → Prop} {K : PySem.W.Frag} {H : Hp} {d : D} {v w : V} (r : Rp N K H d v) (h : DL.toV d = some w) : v = w := by
  cases r <;> first | (cases h; rfl) | cases h
def toVs : List (Str × D) → Option (List (Str × V))
  | [] => some []
  | (n, d) :: r => match DL.toV d, toVs r with
    | some v, some vs => some ((n, v) :: vs)
    | _, _ => Option.none
theorem RpF.toVs {N : Addr → Prop} {K : PySem.W.Frag} {H : Hp} : ∀ {fs : List (Str × D)} {vs ws : List (Str × V)}, RpF N K H fs vs → DL.toVs fs = some ws → vs = ws
  | [], _, _, .nil, h => by cases h; rfl
  | (n, d) :: r, _, ws, .cons (v := v) (vs := vs) q rr, h => by
    have h : (match DL.toV d, DL.toVs r with
      | some v, some vs => some ((n, v) :: vs)
      | _, _ => Option.none) = some ws := h
    cases e1 : DL.toV d with
    | none => rw [e1] at h; cases h
    | some v' =>
      cases e2 : DL.toVs r with
      | none => rw [e1, e2] at h; cases h
      | some vs' =>
        rw [e1, e2] at h
        cases h
        rw [q.toV e1, rr.toVs e2]
/-- what a suite makes of an exception: the word wd -/
abbrev Wd := Xc → D → Prop
def EchR (K : PySem.W.Frag) (wd : Wd) (Q : VK) : XK := fun cls d H => ∃ (M : Mt K) (x : Xc) (r : D), M.inv H ∧ RpX M.dom K H x cls d ∧ wd x r ∧ ∀ v H', M.inv H' → Ex M H H' → Rp M.dom K H' r v → Q v H'
def TTR (K : PySem.W.Frag) (wd : Wd) : (XK → Hp → VK → Prop) → Hp → VK → Prop := fun tl H Q => tl (EchR K wd Q) H fun _ H' => Q .non H'
/-- the suite's place -/
abbrev gaH (Γ : Ga) (k : Nat) (N : List Str) (sc : Scope) (row : Addr) (T : List (Addr × Str)) (h : Hot) : Ga := { P := Γ.P, w := Γ.w, K := Γ.K, mg := Γ.mg, base := Γ.base, N := N, sc := sc, k := k, fnL := fun _ => true, E := ⟨E0, row, T, some h⟩, cm := false, ex := IsHot h }
abbrev endR (r : D) : DE := { nx := fun _ => False, rt := fun d => d = r, bk := fun _ => False, ct := fun _ => False }
/-- a def's slots, the exception in the slot i, all else unknown -/
def envH (n i : Nat) (a : Addr) : En := (List.replicate n none).set i (some (.sh (.ref a)))
/-- what the suite must do, so that wd is its word -/
structure SuiteOk (Γ : Ga) (k : Nat) (Ng : List Str) (sg : Scope) (i : Nat) (CS : Addr) (suite : List Stmt) (wd : Wd) : Prop where
  ok : ∀ (x : Xc) (r : D), wd x r → PySem.W.exmOne Γ.K (.ref x.C) (.ref CS) = some true ∧ ∃ vs, toVs x.fs = some vs ∧ ∀ (d : Option Addr), (d = none → vs = []) → ((∃ dx, d = some dx) → vs ≠ []) → ∀ (row : Addr) (T : List (Addr × Str)) (a : Addr), ∃ W : TDS, DSs (gaH Γ k Ng sg row T ⟨a, x.C, d, vs⟩) suite W ∧
    W (endR r) (envH Ng.length i a) XF
theorem okx_suite {Γ : Ga} {k : Nat} {Ng : List Str} {sg : Scope} {x : Str} {g : Addr} {cdg : Value} {A : Around} {stack : List Env} {s : Shared} {H : Hp} {row : Addr} {T : List (Addr × Str)} {a : Addr} {oe : Obj} {cls : Value} {C : Addr} {d : Option Addr} {vs : List (Str × V)} {pn : List (Addr × Obj)} (hr : Room k (A.deeper (envOfC x sg s.heap.objs.size g cdg))) (hc : cls = .ref C) (hz : Zc cls d oe) (hf : ∃ vs, oe.data = .fields vs) :
    OkX (gaH Γ k Ng sg row T ⟨a, C, d, vs⟩) ((cxOf C8.CX0 Γ.P Γ.w Γ.K Γ.mg Γ.base Ng x sg g cdg A stack s H C8.E0).nox.suite a ((a, oe) :: pn)) where
  prog := rfl
  w := rfl
  K := rfl
  mg := rfl
  base := rfl
  N := rfl
  sc := rfl
  roomW := ⟨hr.dp, hr.un⟩
  hnone := fun z => by cases z
  calm := fun z => by cases z
  extra := ⟨_, oe, pn, rfl, by rw [← hc]; exact hz, hf⟩
  pass := PassesOwn.never
  takes := fun u s' x => by
    have ⟨_, _, _, _, _, _, _, _, _, _, _, _, _, _, _, _, z⟩ := x; exact False.elim z
  fn := fun _ _ => rfl
section
variable {Γ : Ga} {X : Cx}
/-- the def: try: a() / except CS as n: suite / return None -/
theorem raised_gives {k i : Nat} {Ng : List Str} {x a e n q : Str} {sg : Scope} {g CS : Addr} {cdg : Value} {b₀ : Stmt} {suite : List Stmt} {wd : Wd} {p1 p2 p3 p4 p6 p8 p9 p10 : Pos} {j : Nat} (ox : OkX Γ X) (hr : Room (k + 1) X.A) (S : SuiteOk Γ k Ng sg i CS (b₀ :: suite) wd) (hN : Ng.Nodup) (hi : Ng[i]? = some n) (hi0 : i ≠ 0) (hln : sg.names.lookup n = some .local)
    (hge : sg.names.lookup e = some .globalImplicit) (hme : Γ.mg e = some (.ref CS)) (hde : (e == ("__debug__" : Str)) = false) (hN0 : 0 < Ng.length) :
    GivesTo X Ng x sg g cdg [.Try [.Expr (.Call (.Name a p1) [] [] p2) p3] [.ExceptHandler (some (.Name e p4)) (some n) (b₀ :: suite) p6] [] [] p8, .Return (some (.Constant .none j p9)) p10] a q (TTR Γ.K wd) := by
  intro f c' s H Q tl act hc h
  have hgl : Gl (Cx.nox (cxOf C8.CX0 X.prog X.w X.K X.mg X.base Ng x sg g cdg X.A X.stack s H C8.E0)) e := hge
  have h0 : (L2.start Ng [V.ref f])[0]? = some (some (V.ref f)) := rfl
  refine ⟨_, pss_cons (ps_try_as (X := (cxOf C8.CX0 X.prog X.w X.K X.mg X.base Ng x sg g cdg X.A X.stack s H C8.E0).nox) (c := .ref CS) (i := i)
      (tb := fun W D σ' H' => ∃ Ech : XK, (∀ cls d σ' H', Ech cls d H' → W cls d σ' H') ∧ σ'[0]? = some (some (.ref f)) ∧ H' c' = some (CodeO c' q) ∧ tl Ech H' fun _ H' => D.nx σ' H')
      (ts := fun a cls d D σ' H' => σ'.length = Ng.length → ∃ t, (∀ (oe : Obj) (pn : List (Addr × Obj)), Zc cls d oe → (∃ vs, oe.data = .fields vs) → PSs ((cxOf C8.CX0 X.prog X.w X.K X.mg X.base Ng x sg g cdg X.A X.stack s H C8.E0).nox.suite a ((a, oe) :: pn)) (b₀ :: suite) t) ∧ t D σ' H')
      rfl rfl hN hi hln ⟨hgl, hde, .inl (by rw [ox.mg]; exact hme)⟩ L2.takes0 (fun W pn xe tk _ => ?_) (fun a oe cls d pn hz hf => ?_)) (pss_one (ps_ret pe_non)), ?_⟩
  · refine ⟨fun pins s' σ' H' D I ⟨Ech, hW, h1, h2, h3⟩ => ?_⟩
    exact (pss_one (ps_expr (pos := p3) (act W pn xe Ech p1 p2 tk hW))).run pins s' σ' H' D I ⟨h1, h2, h3⟩
  · refine ⟨fun pins s' σ' H' D I h' => ?_⟩
    obtain ⟨t, ht, q⟩ := h' I.len
    exact (ht oe pn hz hf).run pins s' σ' H' D I q
  · refine ⟨EchR Γ.K wd Q, fun cls d σ' H' z => ?_, h0, hc, h⟩
    obtain ⟨M, xc, r, hi', rx, hw, fin⟩ := z
    obtain ⟨hex, vs, hvs, S⟩ := S.ok xc r hw
    obtain ⟨rfl, rx⟩ := rx
    refine ⟨true, by rw [ox.K]; exact hex, fun _ a ha hl => ?_, fun z => by cases z⟩
    have ilt : i < Ng.length := (List.getElem?_eq_some_iff.mp hi).1
    have envAt : ∀ (j : Nat) (u : DV), (envH Ng.length i a)[j]? = some (some u) → j = i ∧ u = .sh (.ref a) := fun j u e => by
      unfold envH at e
      by_cases hj : i = j
      · subst hj
        rw [List.getElem?_set_self (by rw [List.length_replicate]; exact ilt)] at e
        cases e
        exact ⟨rfl, rfl⟩
      · rw [List.getElem?_set_ne hj, List.getElem?_replicate] at e
        split at e <;> cases e
    have go : ∀ (M' : Mt Γ.K), M'.inv H' → HotL M' (some ⟨a, xc.C, d, vs⟩) → (∀ c, M.dom c → M'.dom c) → (∀ H2, M'.inv H2 → Ex M' H' H2 → M.inv H2 ∧ Ex M H' H2) → (d = none → vs = []) → ((∃ dx, d = some dx) → vs ≠ []) → ∃ t, (∀ (oe : Obj) (pn : List (Addr × Obj)), Zc (.ref xc.C) d oe → (∃ vs, oe.data = .fields vs) → PSs ((cxOf C8.CX0 X.prog X.w X.K X.mg X.base Ng x sg g cdg X.A X.stack s H C8.E0).nox.suite a ((a, oe) :: pn)) (b₀ :: suite) t) ∧
        ∀ D0 : Ends, D0.rt = Q → t D0 (σ'.set i (some (.ref a))) H' := fun M' i' hot dm exs d1 d2 => by
      obtain ⟨W, ⟨t, pt, st⟩, hW⟩ := S d d1 d2 M'.row M'.tabs a
      refine ⟨t, fun oe pn hz hf => ?_, fun D0 hD => ?_⟩
      · have ok := okx_suite (Γ := Γ) (k := k) (Ng := Ng) (sg := sg) (x := x) (g := g) (cdg := cdg) (A := X.A) (stack := X.stack) (s := s) (H := H) (row := M'.row) (T := M'.tabs) (a := a) (vs := vs) (pn := pn) (hr.deeper _) rfl hz hf
        rw [ox.prog, ox.w, ox.K, ox.mg, ox.base]
        exact pt _ ok
      · have len : (envH Ng.length i a).length = (σ'.set i (some (V.ref a))).length := by
          unfold envH
          rw [List.length_set, List.length_replicate, hl]
        have at_i : (σ'.set i (some (V.ref a)))[i]? = some (some (V.ref a)) := List.getElem?_set_self (by rw [List.length_set] at hl; rw [hl]; exact ilt)
        refine st M' H' (envH Ng.length i a) _ H' D0 (endR r) XF ⟨i', Ex.refl, len, fun j u e => ?_, fun j u e => ?_, fun j j' u u' c e => ?_⟩ ⟨⟨rfl, rfl, hot⟩, fun _ _ _ _ z => z.elim⟩ ⟨fun _ _ _ _ z => z.elim, fun u v H2 e i2 ru hu => ?_, fun _ _ _ _ z => z.elim, fun _ _ _ _ z => z.elim⟩ hW
        · obtain ⟨rfl, eu⟩ := envAt j _ e
          cases eu
          exact ⟨_, at_i, .ref a⟩
        · obtain ⟨_, eu⟩ := envAt j _ e
          cases eu
        · obtain ⟨_, eu⟩ := envAt j _ e
          cases eu
        · have hu : u = r := hu
          subst hu
          obtain ⟨i3, e3⟩ := exs H2 i2 e
          rw [hD]
          exact fin v H2 i3 e3 (ru.tr fun c o n z wt => ⟨fun w => n (dm c w), z⟩)
    rcases rx with ⟨f0, rfl⟩ | ⟨dx, ws, nf, rfl, nd, hdx, rf⟩
    · rw [f0] at hvs
      cases hvs
      obtain ⟨t, h1, h2⟩ := go M hi' (fun dx e => by cases e) (fun _ z => z) (fun _ z w => ⟨z, w⟩) (fun _ => rfl) (fun ⟨_, z⟩ => by cases z)
      exact ⟨t, h1, h2 _ rfl⟩
    · have e := rf.toVs hvs
      subst e
      have ne : ws ≠ [] := fun z => by
        rw [z] at rf
        cases q' : xc.fs with
        | nil => exact nf q'
        | cons u r' => rw [q'] at rf; cases rf
      obtain ⟨t, h1, h2⟩ := go (M.plusO dx (.xd ws) nd trivial) ⟨hi', hdx⟩ (fun dx' e H2 z => by cases e; exact z.2) (fun _ z => .inl z) (fun H2 z w => ⟨z.1, fun c o n e wt => by
        by_cases hc : c = dx
        · subst hc
          rw [z.2, ← e, hdx]
        · exact w c o (fun y => y.elim n hc) e wt⟩) (fun z => by cases z) (fun _ => ne)
      exact ⟨t, h1, h2 _ rfl⟩
end
end DL
end

section
set_option Elab.async false
set_option linter.all false
set_option maxRecDepth 100000
set_option maxHeartbeats 5000000
namespace DL
open PySem L2 LamX PyProof.Rows
section
variable {Γ : Ga} {X : Cx} {K : PySem.W.Frag} {M : Mt K} {H0 H H' : Hp} {ρ ρ' : En} {σ σ' : L2.St}
/-- the def's own lists out of sight -/
def hideO : Option DV → Option DV
  | some (.sh d) => some (.sh d)
  | _ => none
def hideOw (ρ : En) : En := ρ.map hideO
theorem hide_sh {i : Nat} {d : D} (h : (hideOw ρ)[i]? = some (some (.sh d))) : ρ[i]? = some (some (.sh d)) := by
  unfold hideOw at h
  rw [List.getElem?_map] at h
  cases e : ρ[i]? with
  | none => rw [e] at h; cases h
  | some o =>
    rw [e] at h
    cases o with
    | none => cases h
    | some u => cases u <;> cases h; rfl
theorem hide_ow {i : Nat} {ds : List D} (h : (hideOw ρ)[i]? = some (some (.ow ds))) : False := by
  unfold hideOw at h
  rw [List.getElem?_map] at h
  cases e : ρ[i]? with
  | none => rw [e] at h; cases h
  | some o =>
    rw [e] at h
    cases o with
    | none => cases h
    | some u => cases u <;> cases h
theorem rep_hide (R : Rep M H0 ρ σ H) : Rep (M.over (Own ρ σ) H R.over) H (hideOw ρ) σ H := by
  have no : ∀ q, ¬ Own (hideOw ρ) σ q := fun q ⟨i, ds, h, _⟩ => hide_ow h
  refine ⟨⟨R.inv, fun _ _ => rfl⟩, Ex.refl, ?_, fun i d h => ?_, fun i ds h => (hide_ow h).elim, fun i j ds es q h => (hide_ow h).elim⟩
  · unfold hideOw
    rw [List.length_map]
    exact R.len
  · obtain ⟨v, e, r⟩ := R.sh i d (hide_sh h)
    exact ⟨v, e, r.tr fun c o n z _ => ⟨fun w => w.elim n (no c), z⟩⟩
/-- x(lambda: body), x the def that wd tells of -/
def TRaised (wd : Wd) (Tb : TD) : TD := fun ρ Q _ => Tb (hideOw ρ) (fun _ _ => Q .non ρ) (fun x => ∃ r, wd x r ∧ Q r ρ)
/-- the place of a lambda's body -/
abbrev gaL (Γ : Ga) (k : Nat) (scope : Scope) (E : XR) : Ga := { P := Γ.P, w := Γ.w, K := Γ.K, mg := Γ.mg, base := Γ.base, N := Γ.N, sc := scope, k := k, fnL := fun _ => false, E := E }
theorem okx_lam {k : Nat} {A : Around} {outer : List Env} {s : Shared} {H : Hp} {E : XK} {scope : Scope} {f c' : Addr} {row : Addr} {T : List (Addr × Str)} (h : OkX Γ X) (hr : Room k (A.deeper (lamEnv X scope s.heap.objs.size f c'))) :
    OkX (gaL Γ k scope ⟨E, row, T, none⟩) (lamCx X A outer s H E scope f c') where
  prog := h.prog
  w := h.w
  K := h.K
  mg := h.mg
  base := h.base
  N := h.N
  sc := rfl
  roomW := .of hr
  hnone := fun _ => hr.hd
  calm := fun _ => rfl
  extra := trivial
  pass := passes_of rfl
  takes := takes_of rfl rfl rfl rfl
  fn := fun _ z => by cases z
/-- the def that a lambda is handed to -/
structure RaisedAt (Γ : Ga) (q x : Str) (wd : Wd) : Prop where
  ex : ∃ (a : Str) (g : Addr) (pg : Arguments) (bg : List Stmt) (sg : Scope) (dV kV doc pm cdv ct oc : Value) (an od : Option Addr) (osl : Array (Option Value)) (Ng : List Str), Γ.mg x = some (.ref g) ∧ PySem.W.keepIn Γ.K (.ref g) = true ∧
    Γ.K.lookup g = some ⟨oc, od, .func (PySem.W.fnOf x x pg bg sg dV kV doc pm an cdv ct), osl⟩ ∧ PySem.W.codeIn Γ.K cdv x = true ∧ L2.Binds Γ.K (PySem.W.fnOf x x pg bg sg dV kV doc pm an cdv ct) [a] [] ∧ FnScope Ng [a] sg ∧ Ng[0]? = some a ∧ Vis sg a ∧
    (a == ("__debug__" : Str)) = false ∧ (a == ("__classdict__" : Str)) = false ∧ ∀ X, OkX Γ X → GivesTo X Ng x sg g cdv bg a q (TTR Γ.K wd)
/-- where lambdas are made: the code object, its table -/
structure LamAt (Γ : Ga) (q : Str) : Prop where
  ex : ∃ (c P : Addr), TabB Γ.base Γ.mg c P ∧ (P, q) ∈ Γ.E.T ∧ (∀ p ∈ Γ.E.T, p.1 = P → p.2 = q) ∧ ∀ X, OkX Γ X → X.env.code = .ref c ∧ X.env.qual ++ "<lambda>" = q
theorem de_raised {k : Nat} {x q : Str} {wd : Wd} {params : Arguments} {body : Expr} {scope : Scope} {p lpos pos : Pos} {Tb : TD} (F : RaisedAt Γ q x wd) (A : LamAt Γ q) (hk : k + 2 ≤ Γ.k) (hb : ∀ E : XK, DEx (gaL Γ k scope ⟨E, Γ.E.row, Γ.E.T, none⟩) body Tb) (hg : GlB Γ x) (L : lamSB Γ.sc scope = true)
    (hdef : ∀ env : Env, defaultsOf params env = ([], []) := by intro _; rfl)
    (hbind : ∀ (q : Str) (cl : List (Str × Addr)) (pm cv ctv : Value), bindArgs (PySem.W.kla_fn "<lambda>" q params body scope cl pm cv ctv) ⟨[], []⟩ = pure [] := by intros; rfl)
    (hdb : (x == ("__debug__" : Str)) = false := by decide) (hcm : Γ.cm = true := by rfl) : DEx Γ (.Call (.Name x p) [.Lambda params body scope lpos] [] pos) (TRaised wd Tb) := by
  obtain ⟨a, g, pg, bg, sg, dV, kV, doc, pm, cdv, ct, oc, an, od, osl, Ng, hm, kp, lk, cg, bd, Sg, n0, va, d1, d2, gv⟩ := F.ex
  obtain ⟨c, P, TB, inT, un, at_⟩ := A.ex
  have ch : ∀ E : XK, ∃ t, (∀ X, OkX (gaL Γ k scope ⟨E, Γ.E.row, Γ.E.T, none⟩) X → PE X body t) ∧ Sim Γ.K ⟨E, Γ.E.row, Γ.E.T, none⟩ t Tb := hb
  refine ⟨tLam Γ.E.T (TTR Γ.K wd) fun E => Classical.choose (ch E), fun X h => ?_, fun M H0 ρ σ H Q Q' PX R Lx q1 kk => ?_⟩
  · obtain ⟨h1, h2⟩ := at_ X h
    refine pe_lamcall (k := k) (c := c) (P := P) (t := fun E => Classical.choose (ch E)) (h.gl hg) (by rw [h.mg]; exact hm) (by rw [h.K]; exact kp) (by rw [h.K]; exact lk) (by rw [h.K]; exact cg) (by rw [h.K]; exact bd) Sg n0 va (by rw [h2]; exact gv X h) (by rw [h.base, h.mg]; exact TB) h1 (by rw [h2]; exact inT)
      (fun p hp e => by rw [h2]; exact un p hp e) ((h.room hcm).mono hk) (lamS_by (by rw [h.sc]; exact L)) (hdef _) hbind (fun A outer s H E f c' hr => ?_) hdb d1 d2
    exact (Classical.choose_spec (ch E)).1 _ (okx_lam (row := Γ.E.row) (T := Γ.E.T) h hr)
  · refine ⟨by rw [← Lx.1.2.1]; exact M.tinv H R.inv, fun H1 eN T1 => ?_⟩
    have i1 : M.inv H1 := M.tput H H1 R.inv eN (by rw [Lx.1.2.1]; exact T1)
    have e1 : Ex M H H1 := fun c o n e wt => eN c o e wt.ne
    have R1 := R.grow i1 e1
    have s := (Classical.choose_spec (ch (EchR Γ.K wd Q))).2
    refine s (M.over (Own ρ σ) H1 R1.over) H1 (hideOw ρ) σ H1 _ (fun _ _ => Q' .non ρ) (fun x => ∃ r, wd x r ∧ Q' r ρ) (rep_hide R1) ⟨⟨Lx.1.1, Lx.1.2.1, trivial⟩, fun xc cls d H2 px ex2 i2 rx => ?_⟩ q1 fun d ρ2 v H2 q2 R2 ex2 o2 r2 => ?_
    · obtain ⟨r, hw, q2⟩ := px
      refine ⟨M.over (Own ρ σ) H1 R1.over, xc, r, i2, rx, hw, fun v H3 i3 ex3 r3 => ?_⟩
      have ex := ex_over i3 (ex2.trans ex3)
      exact kk r ρ v H3 q2 (R1.grow i3.1 ex) (e1.trans ex) (fun _ z => z) r3
    · have ex := ex_over R2.inv ex2
      exact kk .non ρ .non H2 q2 (R1.grow R2.inv.1 ex) (e1.trans ex) (fun _ z => z) .non
end
end DL
end

section
set_option Elab.async false
set_option linter.all false
set_option maxRecDepth 100000
set_option maxHeartbeats 5000000
namespace DL
open PySem L2 PyProof.Rows
namespace Tm
variable {α β : Type}
/-- what is raised is caught -/
def catch_ : Tm α → (α → Tm β) → (Xc → Tm β) → Tm β
  | .ret a, f, _ => f a
  | .exc x, _, g => g x
  | .stuck, _, _ => .stuck
  | .any p k, f, g => .any p fun d => (k d).catch_ f g
theorem all_catch {f : α → Tm β} {g : Xc → Tm β} {Q X} : ∀ {t : Tm α}, (t.catch_ f g).all Q X = t.all (fun a => (f a).all Q X) (fun x => (g x).all Q X)
  | .ret a => rfl
  | .exc x => rfl
  | .stuck => rfl
  | .any p k => by
    show (∀ d, p d → ((k d).catch_ f g).all Q X) = (∀ d, p d → (k d).all _ _)
    have : ∀ d, ((k d).catch_ f g).all Q X = (k d).all (fun a => (f a).all Q X) (fun x => (g x).all Q X) := fun d => all_catch
    simp only [this]
end Tm
open Tm
section
variable {Fa Fb F : FE} {Ta Tb T : TD} {FA : FL} {TA : TDA}
def fRaised (wd : Xc → Option D) (Fb : FE) : FE := fun ρ => (Fb (hideOw ρ)).catch_ (fun _ => .ret .non) fun x => .ofO (wd x)
theorem r_raised {wd : Xc → Option D} (h : RE Fb Tb) : RE (fRaised wd Fb) (TRaised (fun x r => wd x = some r) Tb) := by
  intro ρ Q X q
  have q : ((Fb (hideOw ρ)).catch_ _ _).all _ _ := q
  rw [all_catch] at q
  refine h _ _ _ (mono (fun a ha => ha) (fun x hx => ?_) q)
  obtain ⟨z, e, qz⟩ := all_ofO.mp hx
  exact ⟨z, e, qz⟩
def fMeth (o : D → List D → Option D) (a : FE) (A : FL) : FE := fun ρ => (a ρ).bind fun x => (A ρ).bind fun ds => .ofO (o x ds)
theorem r_meth {o : D → List D → Option D} {ok : D → Bool} {g : D → List D → (D → Prop) → Prop} (ho : ∀ x ds z P, o x ds = some z → P z → ok x = true ∧ g x ds P) (ha : RE Fa Ta) (hA : RL FA TA) (hne : ∀ ρ x, (FA ρ).all (fun ds => ∃ z, o x ds = some z) (fun _ => True) → ok x = true) : RE (fMeth o Fa FA) (TMeth ok g Ta TA) := by
  intro ρ Q X q
  have q : ((Fa ρ).bind _).all _ _ := q
  rw [all_bind] at q
  refine ha _ _ _ (mono1 (fun x hx => ?_) q)
  rw [all_bind] at hx
  refine ⟨hne ρ x (mono (fun ds hd => ?_) (fun _ _ => trivial) hx), hA _ _ _ (mono1 (fun ds hd => ?_) hx)⟩
  · obtain ⟨z, e, _⟩ := all_ofO.mp hd
    exact ⟨z, e⟩
  · obtain ⟨z, e, qz⟩ := all_ofO.mp hd
    exact (ho x ds z _ e qz).2
/-- the receiver's kind first -/
def fMethK (ok : D → Bool) (o : D → List D → Option D) (a : FE) (A : FL) : FE := fun ρ => (a ρ).bind fun x => chk (ok x) ((A ρ).bind fun ds => .ofO (o x ds))
theorem r_methK {o : D → List D → Option D} {ok : D → Bool} {g : D → List D → (D → Prop) → Prop} (ho : ∀ x ds z P, o x ds = some z → P z → g x ds P) (ha : RE Fa Ta) (hA : RL FA TA) : RE (fMethK ok o Fa FA) (TMeth ok g Ta TA) := by
  intro ρ Q X q
  have q : ((Fa ρ).bind _).all _ _ := q
  rw [all_bind] at q
  refine ha _ _ _ (mono1 (fun x hx => ?_) q)
  obtain ⟨h1, hx⟩ := all_chk.mp hx
  rw [all_bind] at hx
  refine ⟨h1, hA _ _ _ (mono1 (fun ds hd => ?_) hx)⟩
  obtain ⟨z, e, qz⟩ := all_ofO.mp hd
  exact ho x ds z _ e qz
def oCount : D → List D → Option D := fun x ds => match x, ds with
  | .lst xs, [y] => gd (flatD y && xs.all flatD) (.int (cntD xs y))
  | _, _ => none
theorem i_count : ∀ x ds z P, oCount x ds = some z → P z → gCount x ds P := by
  intro x ds z P h p
  cases x <;> first | (cases h; done) | skip
  match ds, h with
  | [y], h =>
    obtain ⟨a, rfl⟩ := gd_some h
    obtain ⟨a, b⟩ := Bool.and_eq_true_iff.mp a
    exact ⟨a, b, p⟩
def oIndex : D → List D → Option D := fun x ds => match x, ds with
  | .lst xs, [y] => if flatD y && xs.all flatD then (idxD xs y).map fun j => .int (j : Nat) else none
  | _, _ => none
theorem i_index : ∀ x ds z P, oIndex x ds = some z → P z → gIndex x ds P := by
  intro x ds z P h p
  match x, ds, h with
  | .lst xs, [y], h =>
    have h : (if flatD y && xs.all flatD then (idxD xs y).map fun j => D.int (j : Nat) else none) = some z := h
    split at h
    · rename_i hc
      obtain ⟨a, b⟩ := Bool.and_eq_true_iff.mp hc
      cases e : idxD xs y with
      | none => rw [e] at h; cases h
      | some j => rw [e] at h; cases h; exact ⟨a, b, j, e, p⟩
    · cases h
/-! ### the exception that a suite holds -/
def fIsH (h : Hot) (i : Nat) (b : Bool) : FE := fun ρ => match ρ[i]? with
  | some (some (.sh (.ref a))) => if a = h.a then .ret (.bl b) else .stuck
  | _ => .stuck
theorem r_isH {h : Hot} {i : Nat} {b : Bool} : RE (fIsH h i b) (TIsH h i b) := by
  intro ρ Q X q
  have q : (fIsH h i b ρ).all _ _ := q
  unfold fIsH at q
  split at q
  · rename_i a e
    by_cases ha : a = h.a
    · rw [if_pos ha] at q
      exact ⟨by rw [e, ha], q⟩
    · rw [if_neg ha] at q; cases q
  · cases q
theorem fIsH_eq {h : Hot} {i : Nat} {b : Bool} {ρ : En} (e : ρ[i]? = some (some (.sh (.ref h.a)))) : fIsH h i b ρ = .ret (.bl b) := by
  unfold fIsH
  rw [e]
  exact if_pos rfl
def fErrH (h : Hot) (i : Nat) (d : D) : FE := fun ρ => match ρ[i]? with
  | some (some (.sh (.ref a))) => if a = h.a then .ret d else .stuck
  | _ => .stuck
theorem r_errH {h : Hot} {i : Nat} {d : D} : RE (fErrH h i d) (TErrH h i d) := by
  intro ρ Q X q
  have q : (fErrH h i d ρ).all _ _ := q
  unfold fErrH at q
  split at q
  · rename_i a e
    by_cases ha : a = h.a
    · rw [if_pos ha] at q
      exact ⟨by rw [e, ha], q⟩
    · rw [if_neg ha] at q; cases q
  · cases q
theorem fErrH_eq {h : Hot} {i : Nat} {d : D} {ρ : En} (e : ρ[i]? = some (some (.sh (.ref h.a)))) : fErrH h i d ρ = .ret d := by
  unfold fErrH
  rw [e]
  exact if_pos rfl
/-- what is not reached -/
def TNev : TD := fun _ _ _ => False
def fNev : FE := fun _ => .stuck
theorem r_nev : RE fNev TNev := fun _ _ _ q => q
theorem de_nev {Γ : Ga} {e : Expr} : DEx Γ e TNev := ⟨fun _ _ _ => False, fun _ _ => ⟨fun _ _ _ _ _ _ h => h.elim⟩, fun _ _ _ _ _ _ _ _ _ _ h _ => h.elim⟩
end
theorem glc_ref {mg : Str → Option Value} {x : Str} {a : Addr} (K : PySem.W.Frag) (g : GlC mg x (.ref a)) : mg x = some (.ref a) := by
  obtain ⟨v, u, e, r, h⟩ := g.ex
  have q := h (fun _ => False) K (fun _ => none)
  cases q
  rw [e]
  cases r
  rfl
section
variable {Γ : Ga} {pos p p2 pe : Pos} {h : Hot}
theorem pe_cls {x : Str} {a : Addr} (g : GlC Γ.mg x (.ref a)) (hg : GlB Γ x) (hd : (x == ("__debug__" : Str)) = false) : ∀ X, OkX Γ X → PE X (.Name x p2) (tC (.ref a)) := fun X o => pe_glob (o.gl hg) (by rw [o.mg]; exact glc_ref Γ.K g) rfl hd
theorem pe_bty {x : Str} {t : String} (hg : GlB Γ x) (hm : Γ.mg x = none) (hv : bootBuiltins x = some (.type t)) (hn : x ≠ "__name__") (hd : (x == ("__debug__" : Str)) = false) : ∀ X, OkX Γ X → PE X (.Name x p2) (tC (.ty t)) := fun X o => pe_bltn (o.gl hg) (by rw [o.mg]; exact hm) hv rfl hn hd
theorem ref_uniq {a : Addr} : ∀ u', RelV (.ref a) u' → u' = .ref a := fun u' r => r
theorem ty_uniq {t : String} : ∀ u', RelV (.ty t) u' → u' = .type t := fun u' r => r
end
end DL
namespace DL
open PySem L2 PyProof.Rows
/-- the suite of the one handler -/
def suiteOf (s : Stmt) : List Stmt := match (defBody s).getD 0 (.Pass ⟨0, 0, 0, 0⟩) with
  | .Try _ [.ExceptHandler _ _ b _] _ _ _ => b
  | _ => []
/-- the place of a law in which lambdas are made -/
abbrev gaLaw (Γ : Ga) (k : Nat) (N : List Str) (st : Stmt) (E : XR) (c : Addr) (q : Str) : Ga := { P := Γ.P, w := Γ.w, K := Γ.K, mg := Γ.mg, base := Γ.base, N := N, sc := defScope st, k := k, fnL := fun _ => true, E := E, ex := fun X => X.env.code = .ref c ∧ X.env.qual ++ "<lambda>" = q }
end DL
namespace DL
open PySem L2
/-! ### what raises nothing -/
theorem Tm.mayX_bind {α β : Type} {f : α → Tm β} {x : Xc} : ∀ {t : Tm α}, (t.bind f).mayX x → t.mayX x ∨ ∃ a, t.may a ∧ (f a).mayX x
  | .ret a, h => .inr ⟨a, rfl, h⟩
  | .exc y, h => .inl h
  | .stuck, h => h.elim
  | .any p k, ⟨d, hd, h⟩ => (Tm.mayX_bind h).elim (fun z => .inl ⟨d, hd, z⟩) fun ⟨a, h1, h2⟩ => .inr ⟨a, ⟨d, hd, h1⟩, h2⟩
def nxE (F : En → Tm α) : Prop := ∀ ρ x, ¬ (F ρ).mayX x
theorem nx_bind {α β : Type} {F : En → Tm α} {g : α → En → Tm β} (h : nxE F) (hg : ∀ a ρ x, ¬ (g a ρ).mayX x) : nxE fun ρ => (F ρ).bind fun a => g a ρ := fun ρ x m => by
  rcases Tm.mayX_bind m with z | ⟨a, _, z⟩
  · exact h ρ x z
  · exact hg a ρ x z
theorem nx_ofO {α : Type} {o : Option α} {x : Xc} : ¬ (Tm.ofO o).mayX x := by
  cases o <;> exact fun z => z
theorem nx_var {i : Nat} : nxE (fVar i) := fun ρ x m => by
  unfold fVar at m
  split at m <;> exact m
theorem nx_c {d : D} : nxE (fC d) := fun _ _ m => m
theorem nx_op {o : Op2} {a b : FE} (ha : nxE a) (hb : nxE b) : nxE (fOp o a b) := fun ρ x m => by
  rcases Tm.mayX_bind m with z | ⟨u, _, z⟩
  · exact ha ρ x z
  · rcases Tm.mayX_bind z with z | ⟨v, _, z⟩
    · exact hb ρ x z
    · exact nx_ofO z
theorem nx_nil : nxE fNil := fun _ _ m => m
theorem nx_cons {a : FE} {r : FL} (ha : nxE a) (hr : nxE r) : nxE (fCons a r) := fun ρ x m => by
  rcases Tm.mayX_bind m with z | ⟨u, _, z⟩
  · exact ha ρ x z
  · rcases Tm.mayX_bind z with z | ⟨v, _, z⟩
    · exact hr ρ x z
    · exact z
theorem nx_cb {o : Op1} {A : FL} (hA : nxE A) : nxE (fCB o A) := fun ρ x m => by
  rcases Tm.mayX_bind m with z | ⟨u, _, z⟩
  · exact hA ρ x z
  · exact nx_ofO z
theorem nx_fld {C : Addr} {f : Str} {a : FE} (ha : nxE a) : nxE (fFld C f a) := fun ρ x m => by
  rcases Tm.mayX_bind m with z | ⟨u, _, z⟩
  · exact ha ρ x z
  · exact nx_ofO z
theorem nx_andV {a b : FE} (ha : nxE a) (hb : nxE b) : nxE (fAndV a b) := fun ρ x m => by
  rcases Tm.mayX_bind m with z | ⟨u, _, z⟩
  · exact ha ρ x z
  · split at z
    · exact hb ρ x z
    · exact z
    · exact z
theorem nx_ret {a : FE} (ha : nxE a) : nxE (fRet a) := fun ρ x m => by
  rcases Tm.mayX_bind m with z | ⟨u, _, z⟩
  · exact ha ρ x z
  · exact z
theorem nx_def {n : Nat} {U : FS} (h : nxE U) : noX (fDef n U) := fun ds x m => by
  rcases Tm.mayX_bind m with z | ⟨o, _, z⟩
  · exact h _ x z
  · cases o <;> exact z
end DL
end

section
set_option Elab.async false
set_option linter.all false
set_option maxRecDepth 100000
set_option maxHeartbeats 5000000
/-! text.index(text), where it is found -/
namespace DL
open PySem L2 PyProof.Rows
section
variable {Γ : Ga} {K : PySem.W.Frag} {e o : Expr} {Ta To : TD} {cpos apos : Pos}
def isStrD : D → Bool | .str _ => true | _ => false
/-- where a text stands in another one first -/
def fstIn (a b : List Nat) : Option Nat := (Builtin.Str.occurrences (S a) (S b) 0 (S a).length 1).head?
def gSIdx : D → List D → (D → Prop) → Prop := fun x ds P => match x, ds with
  | .str a, [.str b] => ∃ i : Nat, fstIn a b = some i ∧ P (.int (i : Nat))
  | _, _ => False
abbrev rSIdx : V → List V → Hp → VK → Prop := fun x xs H Q => ∃ a b i rest, x = .str a ∧ xs = [.str b] ∧ Builtin.Str.occurrences a b 0 a.length 1 = i :: rest ∧ Q (.int (i : Nat)) H
theorem simm_sidx : SimM K "str" rSIdx isStrD gSIdx := by
  refine ⟨fun N H x d r h => ?_, fun M N H x vs dx ds Q P hi hn hd r rs g k => ?_⟩
  · cases r <;> first | (cases h; done) | skip
    exact rfl
  · cases dx <;> first | exact (show False from g).elim | skip
    match ds, g with
    | [.str b], g =>
      obtain ⟨i, e1, p⟩ := g
      cases r with
      | str =>
        cases rs with
        | cons ry rn =>
          cases ry
          cases rn
          rename_i cs
          cases e2 : Builtin.Str.occurrences (S cs) (S b) 0 (S cs).length 1 with
          | nil => unfold fstIn at e1; rw [e2] at e1; cases e1
          | cons j rest =>
            unfold fstIn at e1
            rw [e2] at e1
            cases e1
            exact ⟨_, _, _, rest, rfl, rfl, e2, k _ _ _ p hi Ex.refl (.int _)⟩
theorem de_sindex (ho : DEx Γ o To) (ha : DEx Γ e Ta) (hbase : ∀ env : Env, attributeBase o "index" env (eval o env) = eval o env := by intro _; rfl)
    (hfew : ∀ env : Env, ((backTo cpos (starEach [e] env)).all (fun x => !x.1) && (backToKw cpos (keywordEach [] env)).all (fun x => x.1.isSome)
      && decide ([e].length + ([] : List Keyword).length + (if ([] : List Keyword).isEmpty then 0 else 1) < 30)) = true := by intro _; rfl)
    (hline : (apos.endLine == cpos.line) = true := by rfl) (hs : ∀ env : Env, starEach [e] env = (false, eval e env) :: starEach [] env := by intro _; rfl) :
    DEx Γ (.Call (.Attribute o "index" apos) [e] [] cpos) (TMeth isStrD gSIdx To (TCons Ta TNil)) :=
  de_meth PySem.F.plainAttrs_str PySem.F.slot_str_index PySem.F.type_str_index (fun X h => mt_sindex) simm_sidx ho (da_cons ha da_nil hs) hbase hfew hline hs fun _ => rfl
end
end DL
end

section
set_option Elab.async false
set_option linter.all false
set_option maxRecDepth 100000
set_option maxHeartbeats 5000000
namespace DL
open PySem L2 LamX PyProof.Rows Tm
def oSIdx : D → List D → Option D := fun x ds => match x, ds with
  | .str a, [.str b] => (fstIn a b).map fun i => .int (i : Nat)
  | _, _ => none
theorem i_sidx : ∀ x ds z P, oSIdx x ds = some z → P z → gSIdx x ds P := by
  intro x ds z P h p
  cases x <;> first | (cases h; done) | skip
  match ds, h with
  | [.str b], h =>
    have h : Option.map _ _ = some z := h
    obtain ⟨i, e, rfl⟩ := Option.map_eq_some_iff.mp h
    exact ⟨i, e, p⟩
end DL
end

section
set_option Elab.async false
set_option linter.all false
set_option maxRecDepth 100000
set_option maxHeartbeats 5000000
/-! a, b = x, y, where what is new is a list of one's own -/
namespace DL
open PySem L2 PyProof.Rows
section
variable {Γ : Ga} {X : Cx} {K : PySem.W.Frag} {M : Mt K} {PX : XP} {a b c : Expr} {Ta Tb : TD} {Tl Tm' : TDL} {pos : Pos} {E : XR} {H0 H H' : Hp} {ρ ρ' : En} {σ σ' : L2.St}
/-- a list that nobody holds yet -/
structure Pend (M : Mt K) (H0 : Hp) (ρ : En) (σ : L2.St) (H : Hp) (p : Addr) (ds : List D) (xs : List V) : Prop where
  rep : Rep M H0 ρ σ H
  n : ¬ Nx M ρ σ p
  h0 : Nw H0 p
  at_ : H p = some (.lst xs)
  rp : Rps (fun c => Nx M ρ σ c ∨ c = p) K H ds xs
  av : Av M ρ σ p H
theorem Pend.ow {p : Addr} {ds : List D} {xs : List V} (P : Pend M H0 ρ σ H p ds xs) (j : Nat) : Rep M H0 (ρ.set j (some (.ow ds))) (σ.set j (some (.ref p))) H :=
  P.rep.setOw P.n P.h0 P.at_ P.rp (fun j d h _ => P.av.1 j d h) (fun j es h _ => P.av.2 j es h)
theorem Pend.sh {p : Addr} {ds : List D} {xs : List V} (P : Pend M H0 ρ σ H p ds xs) (i : Nat) {d : D} {v : V} (r : Rp (fun c => Nx M ρ σ c ∨ c = p) K H d v) : Pend M H0 (ρ.set i (some (.sh d))) (σ.set i (some v)) H p ds xs := by
  have w : ∀ c, Nx M (ρ.set i (some (.sh d))) (σ.set i (some v)) c → Nx M ρ σ c := fun c z => z.elim .inl fun z => .inr (own_setSh z).1
  have t : Tr (fun c => Nx M ρ σ c ∨ c = p) H (fun c => Nx M (ρ.set i (some (.sh d))) (σ.set i (some v)) c ∨ c = p) H := fun c o n e _ => ⟨fun z => n (z.elim (fun z => .inl (w c z)) .inr), e⟩
  refine ⟨P.rep.setSh (r.tr fun c o n e _ => ⟨fun z => n (.inl z), e⟩), fun z => P.n (w p z), P.h0, P.at_, P.rp.tr t, fun j u h => ?_, fun j es h => ?_⟩
  · by_cases hj : i = j
    · subst hj
      have hl : i < ρ.length := by
        have := (List.getElem?_eq_some_iff.mp h).1
        simpa using this
      rw [List.getElem?_set_self hl] at h
      cases h
      exact ⟨v, List.getElem?_set_self (by rw [← P.rep.len]; exact hl), r.tr t⟩
    · rw [List.getElem?_set_ne hj] at h ⊢
      obtain ⟨u', e1, e2⟩ := P.av.1 j u h
      exact ⟨u', e1, e2.tr t⟩
  · by_cases hj : i = j
    · subst hj
      have hl : i < ρ.length := by
        have := (List.getElem?_eq_some_iff.mp h).1
        simpa using this
      rw [List.getElem?_set_self hl] at h
      cases h
    · rw [List.getElem?_set_ne hj] at h ⊢
      obtain ⟨q, ys, e1, e2, e3⟩ := P.av.2 j es h
      exact ⟨q, ys, e1, e2, e3.tr t⟩
/-- the heap grows -/
theorem Pend.grow {p q : Addr} {o : HO} {ds : List D} {xs : List V} (P : Pend M H0 ρ σ H p ds xs) (hq : H q = none) : Pend M H0 ρ σ (upd H q o) p ds xs := by
  have e : Ex M H (upd H q o) := Ex.new hq
  have t : ∀ N, Tr N H N (upd H q o) := fun N => tr_new hq
  refine ⟨P.rep.grow (M.fresh _ _ _ P.rep.inv hq) e, P.n, P.h0, by rw [upd_ne (ne_of_none P.at_ hq)]; exact P.at_, P.rp.tr (t _), fun j u h => ?_, fun j es h => ?_⟩
  · obtain ⟨u', e1, e2⟩ := P.av.1 j u h
    exact ⟨u', e1, e2.tr (t _)⟩
  · obtain ⟨q', ys, e1, e2, e3⟩ := P.av.2 j es h
    exact ⟨q', ys, e1, by rw [upd_ne (ne_of_none e2 hq)]; exact e2, e3.tr (t _)⟩
/-- a value made ahead of the list avoids it -/
theorem rp_ahead {p : Addr} {H1 : Hp} {d : D} {v : V} {N : Addr → Prop} (r : Rp N K H d v) (hp : Nw H p) (hN : ∀ c, Nx M ρ σ c → N c) (e : Ex M H H1) (hd : ∀ c, M.dom c → N c) : Rp (fun c => Nx M ρ σ c ∨ c = p) K H1 d v :=
  r.tr fun c o n z wt => ⟨fun y => y.elim (fun y => n (hN c y)) fun y => hp o (by rw [← y]; exact z) wt, e c o (fun y => n (hd c y)) z wt⟩
/-! ### x, y = a value, a new list -/
def TParO (i j : Nat) (A : TD) (B : TDL) : TDS := fun De ρ X => A ρ (fun d ρ1 => B ρ1 (fun ds ρ2 => De.nx ((ρ2.set i (some (.sh d))).set j (some (.ow ds)))) X) X
theorem ds_parO (i j : Nat) {x y : Str} {px py pt : Pos} {kt k2 : Nat} {pt2 : Pos} (ha : DEx Γ a Ta) (hb : DLx Γ b Tl) (hN : Γ.N.Nodup) (hi : Γ.N[i]? = some x := by rfl) (hj : Γ.N[j]? = some y := by rfl) (hij : i ≠ j := by decide)
    (hx : Γ.sc.names.lookup x = some .local := by rfl) (hy : Γ.sc.names.lookup y = some .local := by rfl)
    (hw : ∀ env : Env, env.scope = Γ.sc → swappedStores [.Tuple [.Name x px, .Name y py] kt pt] (.Tuple [a, b] k2 pt2) env = pure (some [x, y]))
    (hs : ∀ env : Env, swapsWithSole [.Tuple [.Name x px, .Name y py] kt pt] (.Tuple [a, b] k2 pt2) pos.line env = pure false := by intro _; rfl) (hcm : Γ.cm = true := by rfl)
    (h1 : ∀ env : Env, starEach [a, b] env = (false, eval a env) :: starEach [b] env := by intro _; rfl) (h2 : ∀ env : Env, starEach [b] env = (false, eval b env) :: starEach [] env := by intro _; rfl) :
    DS Γ (.Assign [.Tuple [.Name x px, .Name y py] kt pt] (.Tuple [a, b] k2 pt2) pos) (TParO i j Ta Tl) := by
  obtain ⟨t, pa, sa⟩ := ha
  obtain ⟨u, pb, sb⟩ := hb
  refine ⟨tPar i j (tCons t (tCons u tNil)), fun X h => ps_par (h.calm hcm) (by rw [h.N]; exact hN) (by rw [h.N]; exact hi) (by rw [h.N]; exact hj) hij (by rw [h.sc]; exact hx) (by rw [h.sc]; exact hy) (pa_cons (pa X h) (pa_cons (pb X h) pa_nil (h2 _)) (h1 _)) (hw _ h.sc) (hs _), fun M H0 ρ σ H D0 D' PX R L k q => sa M H0 ρ σ H _ _ PX R L q fun d ρ1 v H1 q1 R1 e1 o1 r1 => sb M H0 ρ1 σ H1 _ _ PX R1 L q1 fun ds ρ2 p xs H2 q2 R2 e2 o2 hp hl n1 r rp av => ?_⟩
  have P : Pend M H0 ρ2 σ H2 p ds xs := ⟨R2, n1, Nw.back R1.ex (fun y => n1 (.inl y)) hp, hl, rp, av⟩
  have r' := rp_ahead (M := M) (ρ := ρ2) (σ := σ) r1 hp (fun c z => z.elim .inl fun z => .inr (o2 c z)) e2 fun c z => .inl z
  exact ⟨_, _, rfl, k.nx _ _ _ ((P.sh i r').ow j) q2⟩
/-! ### x, y, z = two values, a new list; three values -/
def TTupO (i j l : Nat) (A B : TD) (C : TDL) : TDS := fun De ρ X => A ρ (fun d ρ1 => B ρ1 (fun e ρ2 => C ρ2 (fun ds ρ3 => De.nx (((ρ3.set i (some (.sh d))).set j (some (.sh e))).set l (some (.ow ds)))) X) X) X
theorem ds_tupO (i j l : Nat) {x y z : Str} {px py pz pt : Pos} {kt k2 : Nat} {pt2 : Pos} (ha : DEx Γ a Ta) (hb : DEx Γ b Tb) (hc : DLx Γ c Tl) (hN : Γ.N.Nodup) (hi : Γ.N[i]? = some x := by rfl) (hj : Γ.N[j]? = some y := by rfl) (hl : Γ.N[l]? = some z := by rfl) (hij : i ≠ j := by decide) (hil : i ≠ l := by decide) (hjl : j ≠ l := by decide)
    (hx : Γ.sc.names.lookup x = some .local := by rfl) (hy : Γ.sc.names.lookup y = some .local := by rfl) (hz : Γ.sc.names.lookup z = some .local := by rfl)
    (hw : ∀ env : Env, env.scope = Γ.sc → swappedStores [.Tuple [.Name x px, .Name y py, .Name z pz] kt pt] (.Tuple [a, b, c] k2 pt2) env = pure (some [x, y, z]))
    (hs : ∀ env : Env, swapsWithSole [.Tuple [.Name x px, .Name y py, .Name z pz] kt pt] (.Tuple [a, b, c] k2 pt2) pos.line env = pure false := by intro _; rfl) (hcm : Γ.cm = true := by rfl)
    (h1 : ∀ env : Env, starEach [a, b, c] env = (false, eval a env) :: starEach [b, c] env := by intro _; rfl) (h2 : ∀ env : Env, starEach [b, c] env = (false, eval b env) :: starEach [c] env := by intro _; rfl) (h3 : ∀ env : Env, starEach [c] env = (false, eval c env) :: starEach [] env := by intro _; rfl) :
    DS Γ (.Assign [.Tuple [.Name x px, .Name y py, .Name z pz] kt pt] (.Tuple [a, b, c] k2 pt2) pos) (TTupO i j l Ta Tb Tl) := by
  obtain ⟨t, pa, sa⟩ := ha
  obtain ⟨u, pb, sb⟩ := hb
  obtain ⟨w, pc, sc⟩ := hc
  refine ⟨tPar3 i j l (tCons t (tCons u (tCons w tNil))), fun X h => ps_par3 (h.calm hcm) (by rw [h.N]; exact hN) (by rw [h.N]; exact hi) (by rw [h.N]; exact hj) (by rw [h.N]; exact hl) hij hil hjl (by rw [h.sc]; exact hx) (by rw [h.sc]; exact hy) (by rw [h.sc]; exact hz) (pa_cons (pa X h) (pa_cons (pb X h) (pa_cons (pc X h) pa_nil (h3 _)) (h2 _)) (h1 _)) (hw _ h.sc) (hs _), fun M H0 ρ σ H D0 D' PX R L k q => sa M H0 ρ σ H _ _ PX R L q fun d ρ1 v H1 q1 R1 e1 o1 r1 => sb M H0 ρ1 σ H1 _ _ PX R1 L q1 fun e ρ2 v2 H2 q2 R2 e2 o2 r2 => sc M H0 ρ2 σ H2 _ _ PX R2 L q2 fun ds ρ3 p xs H3 q3 R3 e3 o3 hp hl3 n1 r rp av => ?_⟩
  have P : Pend M H0 ρ3 σ H3 p ds xs := ⟨R3, n1, Nw.back R2.ex (fun y => n1 (.inl y)) hp, hl3, rp, av⟩
  have hp1 : Nw H1 p := Nw.back e2 (fun y => n1 (.inl y)) hp
  have r1' := rp_ahead (M := M) (ρ := ρ3) (σ := σ) r1 hp1 (fun c z => z.elim .inl fun z => .inr (o2 c (o3 c z))) (e2.trans e3) fun c z => .inl z
  have r2' := rp_ahead (M := M) (ρ := ρ3) (σ := σ) r2 hp (fun c z => z.elim .inl fun z => .inr (o3 c z)) e3 fun c z => .inl z
  have r2'' : Rp (fun c => Nx M (ρ3.set i (some (.sh d))) (σ.set i (some v)) c ∨ c = p) Γ.K H3 e v2 := r2'.tr fun c o n z _ => ⟨fun y => n (y.elim (fun y => y.elim (fun y => .inl (.inl y)) fun y => .inl (.inr (own_setSh y).1)) .inr), z⟩
  exact ⟨_, _, _, rfl, k.nx _ _ _ (((P.sh i r1').sh j r2'').ow l) q3⟩
/-- a tuple of values, one of the names seen by a comprehension -/
theorem ds_asgC {tg : Expr} {G : TDG} {T : TD} {e : Expr} (he : DEx Γ e T) (hg : DGx Γ none tg G) (hw : ∀ env : Env, env.scope = Γ.sc → swappedStores [tg] e env = pure none) (hs : ∀ env, swapsWithSole [tg] e pos.line env = pure false := by intro _; rfl)
    (h1 : ∀ env, (assignEach [tg] env).map (·.2) = [assign tg env] := by intro _; rfl) : DS Γ (.Assign [tg] e pos) (TAsgG T G) := by
  obtain ⟨t, p, s⟩ := he
  obtain ⟨g, pg, sg⟩ := hg
  exact ⟨_, fun X h => ps_asg (p X h) (pg X h) (hs _) (hw _ h.sc) (h1 _), fun M H0 ρ σ H D0 D' PX R L k q => s M H0 ρ σ H _ _ PX R L q fun d ρ1 v H1 q1 R1 e1 o1 r1 =>
    sg M H0 ρ1 σ H1 _ _ _ _ R1 r1 q1 fun ρ2 σ2 h2 R2 _ _ => k.nx _ _ _ R2 h2⟩
def TPar3 (i j l : Nat) (A : TDA) : TDS := fun De ρ X => A ρ (fun ds ρ1 => match ds with | [d, e, f] => De.nx (((ρ1.set i (some (.sh d))).set j (some (.sh e))).set l (some (.sh f))) | _ => False) X
theorem ds_par3 (i j l : Nat) {x y z : Str} {px py pz pt : Pos} {kt k2 : Nat} {pt2 : Pos} {TA : TDA} (ha : DAx Γ [a, b, c] TA) (hN : Γ.N.Nodup) (hi : Γ.N[i]? = some x := by rfl) (hj : Γ.N[j]? = some y := by rfl) (hl : Γ.N[l]? = some z := by rfl) (hij : i ≠ j := by decide) (hil : i ≠ l := by decide) (hjl : j ≠ l := by decide)
    (hx : Γ.sc.names.lookup x = some .local := by rfl) (hy : Γ.sc.names.lookup y = some .local := by rfl) (hz : Γ.sc.names.lookup z = some .local := by rfl)
    (hw : ∀ env : Env, env.scope = Γ.sc → swappedStores [.Tuple [.Name x px, .Name y py, .Name z pz] kt pt] (.Tuple [a, b, c] k2 pt2) env = pure (some [x, y, z]))
    (hs : ∀ env : Env, swapsWithSole [.Tuple [.Name x px, .Name y py, .Name z pz] kt pt] (.Tuple [a, b, c] k2 pt2) pos.line env = pure false := by intro _; rfl) (hcm : Γ.cm = true := by rfl) :
    DS Γ (.Assign [.Tuple [.Name x px, .Name y py, .Name z pz] kt pt] (.Tuple [a, b, c] k2 pt2) pos) (TPar3 i j l TA) := by
  obtain ⟨t, pa, sa⟩ := ha
  refine ⟨tPar3 i j l t, fun X h => ps_par3 (h.calm hcm) (by rw [h.N]; exact hN) (by rw [h.N]; exact hi) (by rw [h.N]; exact hj) (by rw [h.N]; exact hl) hij hil hjl (by rw [h.sc]; exact hx) (by rw [h.sc]; exact hy) (by rw [h.sc]; exact hz) (pa X h) (hw _ h.sc) (hs _), fun M H0 ρ σ H D0 D' PX R L k q => sa M H0 ρ σ H _ _ PX R L q fun ds ρ1 vs H1 q1 R1 e1 o1 r1 => ?_⟩
  split at q1
  · cases r1 with
    | cons r rr =>
      cases rr with
      | cons r2 rr =>
        cases rr with
        | cons r3 rr =>
          cases rr
          have w1 : ∀ {d' : D} {v' : V} {ρ2 : En} {σ2 : L2.St} (m : Nat), Tr (Nx M ρ2 σ2) H1 (Nx M (ρ2.set m (some (.sh d'))) (σ2.set m (some v'))) H1 := fun m c o n z wt => ⟨fun w => n (w.elim .inl fun w => .inr (own_setSh w).1), z⟩
          exact ⟨_, _, _, rfl, k.nx _ _ _ (((R1.setSh r).setSh (r2.tr (w1 _))).setSh ((r3.tr (w1 _)).tr (w1 _))) q1⟩
  · exact q1.elim
end
end DL
end

section
set_option Elab.async false
set_option linter.all false
set_option maxRecDepth 100000
set_option maxHeartbeats 5000000
namespace DL
open PySem L2 PyProof.Rows
section
variable {Γ : Ga} {K : PySem.W.Frag} {M : Mt K} {a b c e : Expr} {T Ta Tb : TD} {Tl Tm' : TDL} {pos : Pos} {E : XR} {H0 H H' : Hp} {ρ ρ' : En} {σ σ' : L2.St}
/-! ### a list or a tuple as a test -/
def truD : D → Option Bool
  | .lst xs => some (!xs.isEmpty)
  | .tup xs => some (!xs.isEmpty)
  | _ => none
def TTru (T : TD) : TDT := fun ρ Q X => T ρ (fun d ρ1 => match truD d with | some k => Q k ρ1 | none => False) X
theorem empty_of {N : Addr → Prop} {ds : List D} {xs : List V} (r : Rps N K H ds xs) : ds.isEmpty = xs.isEmpty := by
  cases r <;> rfl
theorem dt_tru (h : DEx Γ e T) (he : ∀ (env : Env) whole, isTrue e env whole = (do let v ← whole; standAt e.pos; holding [v] (truthy v)) := by intro _ _; rfl) : DTx Γ e (TTru T) := by
  obtain ⟨t, p, s⟩ := h
  refine ⟨fun σ H Q => t σ H fun x H' => ∃ k, TruV Γ.K x H' k ∧ Q k H', fun X h => by rw [← h.K]; exact pt_truth (p X h) (he X.env), fun M H0 ρ σ H Q Q' PX R L q k => s M H0 ρ σ H _ _ PX R L q fun d ρ1 v H1 q1 R1 e1 o1 r1 => ?_⟩
  cases r1 with
  | lst qq r => exact ⟨_, .inl ⟨_, qq.sq, rfl⟩, k _ _ _ (by rw [← empty_of r]; exact q1) R1 e1 o1⟩
  | tup qq r => exact ⟨_, .inr (.inl ⟨_, qq.sq, rfl⟩), k _ _ _ (by rw [← empty_of r]; exact q1) R1 e1 o1⟩
  | _ => exact (show False from q1).elim
end
end DL
end

section
set_option Elab.async false
set_option linter.all false
set_option maxRecDepth 100000
set_option maxHeartbeats 5000000
namespace DL
open PySem L2 LamX PyProof.Rows Tm
def fParO (i j : Nat) (A : FE) (B : FL) : FS := fun ρ => (A ρ).bind fun d => (B ρ).bind fun ds => .ret (.nx ((ρ.set i (some (.sh d))).set j (some (.ow ds))))
theorem r_parO {i j : Nat} {A : FE} {B : FL} {Ta : TD} {Tl : TDL} (ha : RE A Ta) (hb : RL B Tl) : RS (fParO i j A B) (TParO i j Ta Tl) := by
  intro De ρ X q
  have q : ((A ρ).bind _).all _ _ := q
  rw [all_bind] at q
  refine ha _ _ _ (mono1 (fun d hd => ?_) q)
  rw [all_bind] at hd
  exact hb _ _ _ (mono1 (fun ds h => h) hd)
def fTupO (i j l : Nat) (A B : FE) (C : FL) : FS := fun ρ => (A ρ).bind fun d => (B ρ).bind fun e => (C ρ).bind fun ds => .ret (.nx (((ρ.set i (some (.sh d))).set j (some (.sh e))).set l (some (.ow ds))))
theorem r_tupO {i j l : Nat} {A B : FE} {C : FL} {Ta Tb : TD} {Tl : TDL} (ha : RE A Ta) (hb : RE B Tb) (hc : RL C Tl) : RS (fTupO i j l A B C) (TTupO i j l Ta Tb Tl) := by
  intro De ρ X q
  have q : ((A ρ).bind _).all _ _ := q
  rw [all_bind] at q
  refine ha _ _ _ (mono1 (fun d hd => ?_) q)
  rw [all_bind] at hd
  refine hb _ _ _ (mono1 (fun e he => ?_) hd)
  rw [all_bind] at he
  exact hc _ _ _ (mono1 (fun ds h => h) he)
def fPar3 (i j l : Nat) (A : FL) : FS := fun ρ => (A ρ).bind fun ds => match ds with
  | [d, e, f] => .ret (.nx (((ρ.set i (some (.sh d))).set j (some (.sh e))).set l (some (.sh f))))
  | _ => .stuck
theorem r_par3 {i j l : Nat} {A : FL} {TA : TDA} (h : RL A TA) : RS (fPar3 i j l A) (TPar3 i j l TA) := by
  intro De ρ X q
  have q : ((A ρ).bind _).all _ _ := q
  rw [all_bind] at q
  refine h _ _ _ (mono1 (fun ds hd => ?_) q)
  match ds, hd with
  | [d, e, f], hd => exact hd
def fTru (F : FE) : FT := fun ρ => (F ρ).bind fun d => match truD d with | some k => .ret k | none => .stuck
theorem r_tru {F : FE} {T : TD} (h : RE F T) : RT (fTru F) (TTru T) := by
  intro ρ Q X q
  have q : ((F ρ).bind _).all _ _ := q
  rw [all_bind] at q
  refine h _ _ _ (mono1 (fun d hd => ?_) q)
  cases e : truD d with
  | none => rw [e] at hd; exact hd.elim
  | some k => rw [e] at hd; show (match truD d with | some k => Q k ρ | none => False); rw [e]; exact hd
/-- a statement that is never met -/
def fStop : FS := fun _ => .stuck
theorem r_stop : RS fStop (fun _ _ _ => False) := fun _ _ _ q => q
end DL
end

section
set_option Elab.async false
set_option linter.all false
set_option maxRecDepth 100000
set_option maxHeartbeats 5000000
namespace DL
open PySem L2 LamX PyProof.Rows
/-! ### pairs out of lists, tuples, texts in any mix -/
inductive So
  | l (a : Addr) | t (a : Addr) | x (c : Str)
/-- what it holds -/
def So.has (K : PySem.W.Frag) (H : Hp) : So → List V → Prop
  | .l a, xs => SqL K H a xs
  | .t a, xs => SqT K H a xs
  | .x c, xs => xs = c.cps.toList.map fun s => V.str ⟨#[s]⟩
def So.v : So → V
  | .l a => .ref a
  | .t a => .ref a
  | .x c => .str c
def So.off : So → Addr → Prop
  | .l a, b => a ≠ b
  | .t a, b => a ≠ b
  | .x _, _ => True
/-- an iterator over it, at n -/
def So.at (h : Heap) (i : Addr) (n : Nat) : So → Prop
  | .l a => h.IsListIter i a n
  | .t a => h.IsTupleIter i a n
  | .x c => ∃ t, h.IsStrIter i (strIterType c) c t n
theorem vals_at {xs : List V} {us : List Value} (r : Vals xs us) {j : Nat} {v : Value} (e : us[j]? = some v) : ∃ x, xs[j]? = some x ∧ RelV x v := by
  have hj : j < xs.length := by rw [r.length]; exact (List.getElem?_eq_some_iff.mp e).1
  obtain ⟨u, hu, ru⟩ := r.get (List.getElem?_eq_getElem hj)
  rw [e] at hu
  cases hu
  exact ⟨_, List.getElem?_eq_getElem hj, ru⟩
section
variable {s : Shared} {X : Cx} {σ : L2.St} {H : Hp} {pins : List (Addr × Obj)}
theorem So.inj (I : L2.Inv X pins σ H s) {so : So} {xs ys : List V} (h : so.has X.K H xs) (h' : so.has X.K H ys) : xs = ys := by
  cases so with
  | l a => exact I.list_inj h h'
  | t a => exact I.tuple_inj h h'
  | x c => exact Eq.trans h (Eq.symm h')
theorem So.obj {so : So} {h : Heap} {i : Addr} {n : Nat} (q : so.at h i n) : ∃ o, h.get? i = some o ∧ ∀ v, o.data ≠ .cell v := by
  cases so with
  | l a => obtain ⟨o, e, _, d⟩ := q; exact ⟨o, e, fun v z => by rw [d] at z; cases z⟩
  | t a => obtain ⟨o, e, _, d⟩ := q; exact ⟨o, e, fun v z => by rw [d] at z; cases z⟩
  | x c => obtain ⟨t, o, e, _, d⟩ := q; exact ⟨o, e, fun v z => by rw [d] at z; cases z⟩
theorem So.keep {so : So} {h h' : Heap} {i : Addr} {n : Nat} (q : so.at h i n) (k : ∀ o, h.get? i = some o → h'.get? i = some o) : so.at h' i n := by
  cases so with
  | l a => obtain ⟨o, e, r⟩ := q; exact ⟨o, k o e, r⟩
  | t a => obtain ⟨o, e, r⟩ := q; exact ⟨o, k o e, r⟩
  | x c => obtain ⟨t, o, e, r⟩ := q; exact ⟨t, o, k o e, r⟩
/-- what the library's walk of pairs asks of a source -/
theorem So.draws (I : L2.Inv X pins σ H s) {A : Around} (hh : A.handled = none) {P : Program} {w : World} {so : So} {xs : List V} {i : Addr} {n : Nat} (q : so.has X.K H xs) (hi : so.at s.heap i n) (ho : so.off i) :
    ∃ fp Pd St, Draws P w A i fp xs.length Pd St ∧ St n s.heap ∧ i ∈ fp ∧ (∀ b, b ≠ i → so.off b → b ∉ fp) ∧ (∀ j v, Pd j v → ∃ x, xs[j]? = some x ∧ RelV x v) ∧ ∀ j h, St j h → so.at h i j := by
  cases so with
  | l a =>
    obtain ⟨its, rv, p, _⟩ := I.list q
    have e : xs.length = its.toArray.size := by rw [rv.length]; simp
    refine ⟨_, _, _, e ▸ Draws.list hh i a ho its.toArray, ⟨hi, p.isList⟩, by simp, fun b h1 h2 z => ?_, fun j v z => ?_, fun j h z => z.1⟩
    · simp only [List.mem_cons, List.not_mem_nil, or_false] at z
      exact z.elim h1 fun z => h2 z.symm
    · have z : its[j]? = some v := by simpa using z
      exact vals_at rv z
  | t a =>
    obtain ⟨its, rv, p, _⟩ := I.tuple q
    have e : xs.length = its.toArray.size := by rw [rv.length]; simp
    refine ⟨_, _, _, e ▸ Draws.tuple hh i a ho its.toArray, ⟨hi, p⟩, by simp, fun b h1 h2 z => ?_, fun j v z => ?_, fun j h z => z.1⟩
    · simp only [List.mem_cons, List.not_mem_nil, or_false] at z
      exact z.elim h1 fun z => h2 z.symm
    · have z : its[j]? = some v := by simpa using z
      exact vals_at rv z
  | x c =>
    obtain ⟨t, hi⟩ := hi
    have q : xs = _ := q
    have e : xs.length = c.cps.size := by rw [q]; simp
    refine ⟨_, _, _, e ▸ Draws.text hh i c t, hi, by simp, fun b h1 h2 z => ?_, fun j v ⟨d, u, z, y⟩ => ?_, fun j h z => ⟨t, z⟩⟩
    · simp only [List.mem_cons, List.not_mem_nil, or_false] at z
      exact h1 z
    · refine ⟨.str ⟨#[d]⟩, ?_, u, y⟩
      rw [q, List.getElem?_map]
      have z : c.cps.toList[j]? = some d := by simpa using z
      rw [z]
      rfl
end
/-! ### enumerate -/
def Ie (K : PySem.W.Frag) (so : So) : It :=
  ⟨fun i H => ∃ xs, so.has K H xs ∧ i < xs.length,
   fun i H v H' => ∃ T x xs, v = .ref T ∧ H T = none ∧ H' = upd H T (.tup [.int (i : Nat), x]) ∧ so.has K H xs ∧ xs[i]? = some x ∧ ∀ ys, so.has K H ys → ys = xs,
   fun i H => ∃ xs, so.has K H xs ∧ xs.length = i⟩
theorem turn_e {P : Program} {w : World} {K : PySem.W.Frag} {elts : List Expr} {kk : Nat} {tpos : Pos} (so : So) (e it : Addr) (hne : e ≠ it) (oe : so.off e) (oi : so.off it) :
    Turn P w K (.Tuple elts kk tpos) (Ie K so) [e, it] e (fun i h => (∃ old, IsEnum h e it ((0 : Int) + (i : Nat)) old) ∧ so.at h it i) := by
  refine ⟨List.mem_cons_self .., fun i h ⟨⟨old, h1⟩, h2⟩ b hb => ?_, fun i h h' ⟨⟨old, h1⟩, h2⟩ k => ?_, ?_, ?_, fun A i s Q E ⟨⟨_, h1⟩, _⟩ h => wpAny_pyIter_enum h1 h⟩
  · simp only [List.not_mem_nil, List.mem_cons, or_false] at hb
    cases hb with
    | inl z => rw [z]; exact ⟨_, h1, fun v q => nomatch (q : Data.fields _ = Data.cell v)⟩
    | inr z => rw [z]; exact So.obj h2
  · exact ⟨⟨old, k e (by simp) _ h1⟩, So.keep h2 (k it (by simp))⟩
  · intro X hP hw hK hc i pins s σ H E I hf ⟨h1, h2⟩ ⟨xs, hq, hi⟩
    subst hP hw hK
    obtain ⟨fp, Pd, St, D, st0, mem, ap, hPd, hSt⟩ := So.draws I (A := X.A.in1) (I.ok.hd hc) hq h2 oi
    refine (GoesN.enumFrom 0 D e hne (ap e hne oe) mem).goes i s _ E hi ⟨h1, st0⟩ fun v h' tk ⟨T, t, x, ev, hT, px, tup⟩ ⟨e', st'⟩ k htk => ?_
    subst ev
    obtain ⟨y, hy, ry⟩ := hPd _ _ px
    have new : ObjOk X.prog X.w (upd H T (.tup [.int (i : Nat), y])) h' T (.tup [.int (i : Nat), y]) :=
      ⟨by show 2 ≤ sizeLine; decide, [.int (0 + (i : Int)) t, x], .cons ⟨t, by rw [Int.zero_add]⟩ (.cons ry .nil), tup⟩
    refine ⟨.ref T, _, I.turnedNew (ch := [e, it]) k hf hT new, rfl, ⟨T, y, xs, rfl, I.hok.fresh hT, rfl, hq, hy, fun ys hy => So.inj I hy hq⟩, ⟨e', hSt _ _ st'⟩, fun b hb => ?_⟩
    obtain ⟨o, ho, _⟩ : ∃ o, s.heap.get? b = some o ∧ True := by
      simp only [List.not_mem_nil, List.mem_cons, or_false] at hb
      cases hb with
      | inl z => obtain ⟨old, h1⟩ := h1; exact ⟨_, z ▸ h1, trivial⟩
      | inr z => obtain ⟨o, ho, _⟩ := So.obj h2; exact ⟨o, z ▸ ho, trivial⟩
    rw [upd_ne (Nat.ne_of_lt (Nat.lt_of_lt_of_le (Heap.lt_size ho) hT))]
    exact (hf b hb).1
  · intro X hP hw hK hc i pins s σ H E I hf ⟨h1, h2⟩ ⟨xs, hq, hi⟩
    subst hP hw hK hi
    obtain ⟨fp, Pd, St, D, st0, mem, ap, hPd, hSt⟩ := So.draws I (A := X.A.in1) (I.ok.hd hc) hq h2 oi
    exact (GoesN.enumFrom (elts := elts) (x1 := kk) (pos := tpos) 0 D e hne (ap e hne oe) mem).stops s _ E ⟨h1, st0⟩ fun h' tk k htk => I.turnedL (t' := tk) (ch := [e, it]) k hf
/-! ### zip -/
def Iz (K : PySem.W.Frag) (s1 s2 : So) : It :=
  ⟨fun i H => ∃ xs ys, s1.has K H xs ∧ s2.has K H ys ∧ i < min xs.length ys.length,
   fun i H v H' => ∃ T x y xs ys, v = .ref T ∧ H T = none ∧ H' = upd H T (.tup [x, y]) ∧ (s1.has K H xs ∧ s2.has K H ys) ∧ xs[i]? = some x ∧ ys[i]? = some y ∧ (∀ zs, s1.has K H zs → zs = xs) ∧ ∀ zs, s2.has K H zs → zs = ys,
   fun i H => ∃ xs ys, s1.has K H xs ∧ s2.has K H ys ∧ min xs.length ys.length = i⟩
/-- five new objects, apart from the sources -/
structure Apart5 (s1 s2 : So) (z TI TO i1 i2 : Addr) : Prop where
  nd : [z, TI, TO, i1, i2].Nodup
  o1 : ∀ b ∈ [z, TI, TO, i1, i2], s1.off b
  o2 : ∀ b ∈ [z, TI, TO, i1, i2], s2.off b
theorem Apart5.sep {s1 s2 : So} {z TI TO i1 i2 : Addr} (d : Apart5 s1 s2 z TI TO i1 i2) {f1 f2 : List Addr} (m1 : i1 ∈ f1) (m2 : i2 ∈ f2) (a1 : ∀ b, b ≠ i1 → s1.off b → b ∉ f1) (a2 : ∀ b, b ≠ i2 → s2.off b → b ∉ f2) : ZipSep2 z TI TO i1 i2 f1 f2 := by
  have nd := d.nd
  simp only [List.nodup_cons, List.mem_cons, List.not_mem_nil, or_false, not_or, not_false_eq_true, List.nodup_nil, and_true] at nd
  obtain ⟨⟨n1, n2, n3, n4⟩, ⟨n5, n6, n7⟩, ⟨n8, n9⟩, n10⟩ := nd
  exact { TIz := Ne.symm n1, TOz := Ne.symm n2, TITO := n5, TIi1 := n6, mem1 := m1, zf1 := a1 _ n3 (d.o1 _ (by simp)), Tf1 := a1 _ n8 (d.o1 _ (by simp)), TIi2 := n7, mem2 := m2, zf2 := a2 _ n4 (d.o2 _ (by simp)), Tf2 := a2 _ n9 (d.o2 _ (by simp)), sep1_2 := a2 _ n10 (d.o2 _ (by simp)), sep2_1 := a1 _ (Ne.symm n10) (d.o1 _ (by simp)) }
theorem turn_z {P : Program} {w : World} {K : PySem.W.Frag} {elts : List Expr} {kk : Nat} {tpos : Pos} (s1 s2 : So) {z TI TO i1 i2 : Addr} (d : Apart5 s1 s2 z TI TO i1 i2) :
    Turn P w K (.Tuple elts kk tpos) (Iz K s1 s2) [z, TI, TO, i1, i2] z (fun i h => IsZip h z TI TO .none ∧ IsTupOf2 h TI (.ref i1) (.ref i2) ∧ (∃ a b, IsTupOf2 h TO a b) ∧ s1.at h i1 i ∧ s2.at h i2 i) := by
  have live : ∀ i (h : Heap), (IsZip h z TI TO .none ∧ IsTupOf2 h TI (.ref i1) (.ref i2) ∧ (∃ a b, IsTupOf2 h TO a b) ∧ s1.at h i1 i ∧ s2.at h i2 i) → ∀ b ∈ [z, TI, TO, i1, i2], ∃ o, h.get? b = some o ∧ ∀ v, o.data ≠ .cell v := by
    intro i h ⟨h1, h2, ⟨_, _, h3⟩, h4, h5⟩ b hb
    simp only [List.not_mem_nil, List.mem_cons, or_false] at hb
    rcases hb with e | e | e | e | e <;> rw [e]
    · exact ⟨_, h1, fun v q => nomatch (q : Data.fields _ = Data.cell v)⟩
    · exact ⟨_, h2, fun v q => nomatch (q : Data.seq _ _ = Data.cell v)⟩
    · exact ⟨_, h3, fun v q => nomatch (q : Data.seq _ _ = Data.cell v)⟩
    · exact So.obj h4
    · exact So.obj h5
  refine ⟨List.mem_cons_self .., live, fun i h h' ⟨h1, h2, ⟨a, b, h3⟩, h4, h5⟩ k => ?_, ?_, ?_, fun A i s Q E h1 h => wpAny_pyIter_zip h1.1 h⟩
  · exact ⟨k z (by simp) _ h1, k TI (by simp) _ h2, ⟨a, b, k TO (by simp) _ h3⟩, So.keep h4 (k i1 (by simp)), So.keep h5 (k i2 (by simp))⟩
  · intro X hP hw hK hc i pins s σ H E I hf st ⟨xs, ys, q1, q2, hi⟩
    have lv := live i s.heap st
    obtain ⟨h1, h2, h3, h4, h5⟩ := st
    subst hP hw hK
    obtain ⟨f1, P1, S1, D1, st1, m1, a1, p1, t1⟩ := So.draws I (A := X.A.in1) (I.ok.hd hc) q1 h4 (d.o1 _ (by simp))
    obtain ⟨f2, P2, S2, D2, st2, m2, a2, p2, t2⟩ := So.draws I (A := X.A.in1) (I.ok.hd hc) q2 h5 (d.o2 _ (by simp))
    refine (GoesN.zip2 (d.sep m1 m2 a1 a2) D1 D2).goes i s _ E hi ⟨h1, h2, h3, st1, st2⟩ fun v h' tk ⟨T, x, y, ev, hT, px, py, tup⟩ ⟨g1, g2, g3, g4, g5⟩ k htk => ?_
    subst ev
    obtain ⟨x', hx, rx⟩ := p1 _ _ px
    obtain ⟨y', hy, ry⟩ := p2 _ _ py
    have new : ObjOk X.prog X.w (upd H T (.tup [x', y'])) h' T (.tup [x', y']) := ⟨by show 2 ≤ sizeLine; decide, [x, y], .cons rx (.cons ry .nil), tup⟩
    refine ⟨.ref T, _, I.turnedNew (ch := [z, TI, TO, i1, i2]) (fun b o hb => k b o fun q => hb ?_) hf hT new, rfl, ⟨T, x', y', xs, ys, rfl, I.hok.fresh hT, rfl, ⟨q1, q2⟩, hx, hy, fun zs hz => So.inj I hz q1, fun zs hz => So.inj I hz q2⟩, ⟨g1, g2, g3, t1 _ _ g4, t2 _ _ g5⟩, fun b hb => ?_⟩
    · simp only [List.mem_cons, List.not_mem_nil, or_false] at q ⊢
      rcases q with q | q | q | q <;> simp [q]
    · obtain ⟨o, ho, _⟩ := lv b hb
      rw [upd_ne (Nat.ne_of_lt (Nat.lt_of_lt_of_le (Heap.lt_size ho) hT))]
      exact (hf b hb).1
  · intro X hP hw hK hc i pins s σ H E I hf ⟨h1, h2, h3, h4, h5⟩ ⟨xs, ys, q1, q2, hi⟩
    subst hP hw hK hi
    obtain ⟨f1, P1, S1, D1, st1, m1, a1, p1, t1⟩ := So.draws I (A := X.A.in1) (I.ok.hd hc) q1 h4 (d.o1 _ (by simp))
    obtain ⟨f2, P2, S2, D2, st2, m2, a2, p2, t2⟩ := So.draws I (A := X.A.in1) (I.ok.hd hc) q2 h5 (d.o2 _ (by simp))
    refine (GoesN.zip2 (elts := elts) (x1 := kk) (pos := tpos) (d.sep m1 m2 a1 a2) D1 D2).stops s _ E ⟨h1, h2, h3, st1, st2⟩ fun h' tk k htk => I.turnedL (t' := tk) (ch := [z, TI, TO, i1, i2]) (fun b o hb => k b o fun q => hb ?_) hf
    simp only [List.mem_cons, List.not_mem_nil, or_false] at q ⊢
    rcases q with q | q | q | q <;> simp [q]
section
variable {s : Shared} {X : Cx} {σ : L2.St} {H : Hp} {pins : List (Addr × Obj)}
theorem So.begins (I : L2.Inv X pins σ H s) {so : So} {xs : List V} {u : Value} (q : so.has X.K H xs) (r : RelV so.v u) :
    ∃ o Hh, Begins u o Hh ∧ Hh s.heap ∧ (∀ h i, h.get? i = some o → so.at h i 0) ∧ ∀ b, s.heap.objs.size ≤ b → so.off b := by
  cases so with
  | l a =>
    obtain ⟨its, rv, p, _⟩ := I.list q
    have r : u = Value.ref a := r
    subst r
    exact ⟨_, _, begins_list a its.toArray, p.isList, fun h i e => ⟨_, e, rfl, rfl⟩, fun b hb z => absurd (Nat.lt_of_lt_of_le p.lt hb) (by rw [z]; exact Nat.lt_irrefl _)⟩
  | t a =>
    obtain ⟨its, rv, p, _⟩ := I.tuple q
    have r : u = Value.ref a := r
    subst r
    have ⟨o, ho, _⟩ := p
    exact ⟨_, _, begins_tuple a its.toArray, p, fun h i e => ⟨_, e, rfl, rfl⟩, fun b hb z => absurd (Nat.lt_of_lt_of_le (Heap.lt_size ho) hb) (by rw [z]; exact Nat.lt_irrefl _)⟩
  | x c =>
    obtain ⟨t, r⟩ := r
    subst r
    exact ⟨_, _, begins_text c t, trivial, fun h i e => ⟨t, _, e, rfl, rfl⟩, fun b hb => trivial⟩
end
def iZs (K : PySem.W.Frag) (ta : TA) : TI := fun σ H R => ta σ H fun vs H1 => ∃ s1 s2 xs ys, vs = [So.v s1, So.v s2] ∧ s1.has K H1 xs ∧ s2.has K H1 ys ∧ R (Iz K s1 s2) H1
theorem pi_zs {X : Cx} {e e2 : Expr} {ta : TA} {p pos tpos : Pos} {elts : List Expr} {kk : Nat} (hg : Gl X "zip") (hm : X.mg "zip" = none) (ha : PA X [e, e2] ta) (hs : starEach [e, e2] X.env = (false, eval e X.env) :: starEach [e2] X.env := by rfl) (hpl : (backTo pos (starEach [e2] X.env)).any (·.1) = false := by rfl) :
    PI X (.Tuple elts kk tpos) (.Call (.Name "zip" p) [e, e2] [] pos) (iZs X.K ta) := by
  refine PI.mk fun pins s σ H R I h => Call_ (ld_blt I hg hm PyProof.Rows.boot_zip (PyProof.Rows.callWith_type1 (thn (ha.run pos pins s σ H _ I h) fun us t ⟨vs, H1, J, r, q⟩ => ?_) hs hpl))
  obtain ⟨s1, s2, xs, ys, rfl, q1, q2, q⟩ := q
  have ⟨u1, u2, hu, r1, r2⟩ : ∃ u1 u2, us = [u1, u2] ∧ RelV s1.v u1 ∧ RelV s2.v u2 := by
    cases r with | cons r rr => cases rr with | cons r' rr => cases rr; exact ⟨_, _, rfl, r, r'⟩
  subst hu
  obtain ⟨o1, G1, b1, g1, t1, f1⟩ := So.begins J q1 r1
  obtain ⟨o2, G2, b2, g2, t2, f2⟩ := So.begins J q2 r2
  refine zip_begins2 b1 b2 g1 g2 fun h' hz hI hO e1 e2 _ hk => wpAny_pyIter_zip hz ?_
  have le : ∀ b ∈ [t.heap.objs.size + 4, t.heap.objs.size + 2, t.heap.objs.size + 3, t.heap.objs.size, t.heap.objs.size + 1], t.heap.objs.size ≤ b := by
    intro b hb
    simp only [List.not_mem_nil, List.mem_cons, or_false] at hb
    omega
  have ap : Apart5 s1 s2 (t.heap.objs.size + 4) (t.heap.objs.size + 2) (t.heap.objs.size + 3) t.heap.objs.size (t.heap.objs.size + 1) :=
    ⟨by simp, fun b hb => f1 b (le b hb), fun b hb => f2 b (le b hb)⟩
  exact ⟨_, _, _, _, H1, rfl, J.kept (t' := t.toks) hk, turn_z s1 s2 ap, ⟨hz, hI, ⟨_, _, hO⟩, t1 _ _ e1, t2 _ _ e2⟩, fun b hb => J.fpOk (le b hb) (J.hok.fresh (le b hb)), q⟩
/-! ### enumerate(x) -/
theorem enum_new {v : Value} {o : Obj} {Hh : Heap → Prop} (B : Begins v o Hh) :
    Meets (Builtin.«enumerate.__new__» ⟨[.type "enumerate", v], []⟩) (fun _ R s => Hh s.heap ∧ R (.ok (.ret (.ref (s.heap.push o).objs.size))) { s with heap := (s.heap.push o).push { cls := .type "enumerate", data := .fields #[.none, .bool false, .ref s.heap.objs.size, rawInt 0, .none, .none] } }) := by
  refine .of_wp fun prog w A R s z => ?_
  cases s with | mk hp gn dr tk os =>
  have sub := sub_enumerate
  have it : ∀ {A' : Around} {E Q : Value → Shared → Prop}, Q (.ref hp.objs.size) ⟨hp.push o, gn, dr, tk, os⟩ → wpAny (model prog w) A' (pyIter v) Q E ⟨hp, gn, dr, tk, os⟩ := fun q => B.iter prog w _ _ _ _ z.1 q
  wp_walk using it
  refine wpAny_stack_any fun f => wpAny_pure ?_
  have both : ∀ b : Bool, b = true ∨ b = false := fun b => by cases b <;> simp
  split
  · next c _ _ _ _ _ => rcases both (c == Value.type "enumerate") with e | e <;> rw [e] <;> wp_walk using it <;> exact ⟨_, rfl, z.2⟩
  · wp_walk using it
    exact ⟨_, rfl, z.2⟩
def iEs (K : PySem.W.Frag) (ta : TA) : TI := fun σ H R => ta σ H fun vs H1 => ∃ so xs, vs = [So.v so] ∧ so.has K H1 xs ∧ R (Ie K so) H1
theorem pi_es {X : Cx} {e : Expr} {ta : TA} {p pos tpos : Pos} {elts : List Expr} {kk : Nat} (hg : Gl X "enumerate") (hm : X.mg "enumerate" = none) (ha : PA X [e] ta) (hs : starEach [e] X.env = [(false, eval e X.env)] := by rfl) :
    PI X (.Tuple elts kk tpos) (.Call (.Name "enumerate" p) [e] [] pos) (iEs X.K ta) := by
  refine PI.mk fun pins s σ H R I h => Call_ (ld_blt I hg hm boot_enumerate (PyProof.Rows.callWith_type1 (thn (ha.run pos pins s σ H _ I h) fun us t ⟨vs, H1, J, r, q⟩ => ?_) hs rfl))
  obtain ⟨so, xs, rfl, q1, q⟩ := q
  have ⟨u, hu, r1⟩ : ∃ u, us = [u] ∧ RelV so.v u := by
    cases r with | cons r rr => cases rr; exact ⟨_, rfl, r⟩
  subst hu
  obtain ⟨o, G, b, g, ta', f⟩ := So.begins J q1 r1
  have zo : (t.heap.push o).objs.size = t.heap.objs.size + 1 := Heap.size_push ..
  refine callType_new F.called_enumerate (by decide) (F.typeCall_enumerate_1 _) (F.newCall_enumerate_1 _) (fun ob => F.args_object_init_2 ob _) F.entry_enumerate_new (enum_new b) ⟨g, ?_⟩
  rw [zo]
  let h2 : Heap := (t.heap.push o).push { cls := .type "enumerate", data := .fields #[.none, .bool false, .ref t.heap.objs.size, rawInt 0, .none, .none] }
  have he : IsEnum h2 (t.heap.objs.size + 1) t.heap.objs.size 0 .none := by
    have z := Heap.get?_push_size (t.heap.push o) (o := { cls := .type "enumerate", data := .fields #[.none, .bool false, .ref t.heap.objs.size, rawInt 0, .none, .none] }) rfl
    rw [zo] at z
    exact z
  have ho : h2.get? t.heap.objs.size = some o := Heap.get?_push_of_some _ (Heap.get?_push_size _ b.free)
  have hk : ∀ a o', t.heap.get? a = some o' → h2.get? a = some o' := fun a o' z => Heap.get?_push_of_some _ (Heap.get?_push_of_some _ z)
  have le : ∀ a ∈ [t.heap.objs.size + 1, t.heap.objs.size], t.heap.objs.size ≤ a := by
    intro a ha
    simp only [List.mem_cons, List.not_mem_nil, or_false] at ha
    omega
  refine ⟨⟨_, he, rfl⟩, wpAny_pyIter_enum (s := { t with heap := h2 }) he ?_⟩
  exact ⟨_, _, _, _, H1, rfl, J.kept (t' := t.toks) hk, turn_e so _ _ (Nat.succ_ne_self _) (f _ (le _ (by simp))) (f _ (le _ (by simp))), ⟨⟨_, he⟩, ta' _ _ ho⟩, fun a ha => J.fpOk (le a ha) (J.hok.fresh (le a ha)), q⟩
end DL
end

section
set_option Elab.async false
set_option linter.all false
set_option maxRecDepth 100000
set_option maxHeartbeats 5000000
namespace DL
open PySem L2 LamX PyProof.Rows
/-! ### enumerate and zip, of data -/
def srcOf : D → Option (List D)
  | .lst ds => some ds
  | .tup ds => some ds
  | .str cs => some (cs.map fun c => .str [c])
  | _ => none
def pairsI (k : Nat) : List D → List D
  | [] => []
  | d :: ds => .tup [.int (k : Nat), d] :: pairsI (k + 1) ds
theorem pairsI_len : ∀ {k : Nat} {ds : List D}, (pairsI k ds).length = ds.length
  | _, [] => rfl
  | k, d :: ds => by rw [pairsI, List.length_cons, List.length_cons, pairsI_len]
theorem pairsI_at : ∀ {k i : Nat} {ds : List D} {d : D}, ds[i]? = some d → (pairsI k ds)[i]? = some (.tup [.int ((k + i : Nat) : Int), d])
  | k, 0, e :: ds, d, h => by
    have h : e = d := by simpa using h
    subst h
    rfl
  | k, i + 1, e :: ds, d, h => by
    have h : ds[i]? = some d := by simpa using h
    have z := pairsI_at (k := k + 1) h
    rw [pairsI, List.getElem?_cons_succ, z]
    rw [show k + 1 + i = k + (i + 1) by omega]
def enumD : List D → Option (List D)
  | [d] => (srcOf d).map (pairsI 0)
  | _ => none
def pairD (d e : D) : D := .tup [d, e]
def zipD : List D → Option (List D)
  | [d, e] => (match srcOf d, srcOf e with | some xs, some ys => some (List.zipWith pairD xs ys) | _, _ => none)
  | _ => none
def TSrc (A : TDA) (f : List D → Option (List D)) : TDI := fun ρ Q X => A ρ (fun ds ρ1 => match f ds with | some r => Q r ρ1 | none => False) X
section
variable {Γ : Ga} {K : PySem.W.Frag} {M : Mt K} {H0 H H' : Hp} {ρ ρ' : En} {σ σ' : L2.St}
theorem so_of {d : D} {v : V} {ds : List D} (r : Rp (Nx M ρ σ) K H d v) (e : srcOf d = some ds) :
    ∃ so vs, v = So.v so ∧ so.has K H vs ∧ ∀ (H2 : Hp) (N : Addr → Prop), Ex M (cutH ρ σ H) H2 → (∀ c, N c → M.dom c ∨ Nw (cutH ρ σ H) c) → so.has K H2 vs ∧ Rps N K H2 ds vs := by
  cases r with
  | lst q r =>
    rename_i a es xs
    cases e
    refine ⟨.l a, xs, rfl, q.sq, fun H2 N e2 n2 => ⟨?_, r.tr (cut_tr e2 n2)⟩⟩
    exact SqL.of (cut_not (N := N) e2 q.1 q.2 trivial (n2 a)).2
  | tup q r =>
    rename_i a es xs
    cases e
    exact ⟨.t a, xs, rfl, q.sq, fun H2 N e2 n2 => ⟨(q.tr (cut_tr e2 n2)).sq, r.tr (cut_tr e2 n2)⟩⟩
  | str cs =>
    cases e
    refine ⟨.x (S cs), cs.map fun c => .str (S [c]), rfl, ?_, fun H2 N e2 n2 => ⟨?_, ?_⟩⟩
    · show _ = _
      simp [S]
    · show _ = _
      simp [S]
    · clear e2 n2
      induction cs with
      | nil => exact .nil
      | cons c cs ih => exact .cons (.str [c]) ih
  | _ => cases e
/-- a new pair -/
theorem new_pair {N : Addr → Prop} {T : Addr} {d e : D} {x y : V} (hT : H T = none) (hN : ∀ c, N c → H c ≠ none) (r1 : Rp N K H d x) (r2 : Rp N K H e y) : Rp N K (upd H T (.tup [x, y])) (.tup [d, e]) (.ref T) := by
  have tr : Tr N H N (upd H T (.tup [x, y])) := fun c o n z wt => ⟨n, by rw [upd_ne (ne_of_none z hT)]; exact z⟩
  exact .tup (.inl ⟨fun z => hN T z hT, by simp [upd]⟩) (.cons (r1.tr tr) (.cons (r2.tr tr) .nil))
theorem ex_new {T : Addr} {o : HO} (hT : H T = none) : Ex M H (upd H T o) := fun c o' _ z _ => by rw [upd_ne (ne_of_none z hT)]; exact z
theorem di_enum {e : Expr} {p : Pos} {elts : List Expr} {kk : Nat} {tpos pos : Pos} {TA : TDA} (ha : DAx Γ [e] TA) (hg : GlB Γ "enumerate") (hm : Γ.mg "enumerate" = none) (hs : ∀ env : Env, starEach [e] env = [(false, eval e env)] := by intro _; rfl) :
    DIx Γ (.Tuple elts kk tpos) (.Call (.Name "enumerate" p) [e] [] pos) (TSrc TA enumD) := by
  obtain ⟨t, pa, s⟩ := ha
  refine ⟨iEs Γ.K t, fun X h => by rw [← h.K]; exact pi_es (h.gl hg) (by rw [h.mg]; exact hm) (pa X h) (hs _), fun M H0 ρ σ H R Q' PX Rp' L q k => s M H0 ρ σ H _ _ PX Rp' L q fun ds ρ1 vs H1 q1 R1 e1 o1 r1 => ?_⟩
  cases r1 with
  | nil => exact (show False from q1).elim
  | cons r rr =>
    cases rr with
    | cons _ _ => exact (show False from q1).elim
    | nil =>
      rename_i d v
      cases hd : srcOf d with
      | none => rw [show enumD [d] = none by simp [enumD, hd]] at q1; exact q1.elim
      | some xs =>
        rw [show enumD [d] = some (pairsI 0 xs) by simp [enumD, hd]] at q1
        obtain ⟨so, ws, rfl, h1, later⟩ := so_of r hd
        refine ⟨so, ws, rfl, h1, k _ ρ1 _ H1 q1 R1 e1 o1 fun inv' hinv H2 N i2 e2 n1 n2 n3 => ?_⟩
        obtain ⟨h2, r2⟩ := later H2 N e2 n2
        have len : ws.length = (pairsI 0 xs).length := by rw [pairsI_len, r2.length]
        refine ⟨fun i hi => ⟨ws, h2, len ▸ hi⟩, ⟨ws, h2, len⟩, fun i x H3 hi ⟨T, x', us, ev, hT, eH, hu, hx, uq⟩ => ?_⟩
        have eu := uq ws h2
        subst ev eH eu
        obtain ⟨d', hd', rd⟩ := r2.get hx
        refine ⟨_, pairsI_at hd', hinv H2 T _ i2 hT, ex_new hT, ?_⟩
        rw [Nat.zero_add]
        exact new_pair hT n1 (.int _) rd
theorem di_zip {e e2 : Expr} {p : Pos} {elts : List Expr} {kk : Nat} {tpos pos : Pos} {TA : TDA} (ha : DAx Γ [e, e2] TA) (hg : GlB Γ "zip") (hm : Γ.mg "zip" = none)
    (hs : ∀ env : Env, starEach [e, e2] env = (false, eval e env) :: starEach [e2] env := by intro _; rfl) (hpl : ∀ env : Env, (backTo pos (starEach [e2] env)).any (·.1) = false := by intro _; rfl) :
    DIx Γ (.Tuple elts kk tpos) (.Call (.Name "zip" p) [e, e2] [] pos) (TSrc TA zipD) := by
  obtain ⟨t, pa, s⟩ := ha
  refine ⟨iZs Γ.K t, fun X h => by rw [← h.K]; exact pi_zs (h.gl hg) (by rw [h.mg]; exact hm) (pa X h) (hs _) (hpl _), fun M H0 ρ σ H R Q' PX Rp' L q k => s M H0 ρ σ H _ _ PX Rp' L q fun ds ρ1 vs H1 q1 R1 e1 o1 r1 => ?_⟩
  cases r1 with
  | nil => exact (show False from q1).elim
  | cons r rr =>
    cases rr with
    | nil => exact (show False from q1).elim
    | cons r' rr =>
      cases rr with
      | cons _ _ => exact (show False from q1).elim
      | nil =>
        rename_i d v d' v'
        cases hd : srcOf d with
        | none => rw [show zipD [d, d'] = none by simp [zipD, hd]] at q1; exact q1.elim
        | some xs =>
          cases hd' : srcOf d' with
          | none => rw [show zipD [d, d'] = none by simp [zipD, hd, hd']] at q1; exact q1.elim
          | some ys =>
            rw [show zipD [d, d'] = some (List.zipWith pairD xs ys) by simp [zipD, hd, hd']] at q1
            obtain ⟨s1, ws, rfl, h1, later1⟩ := so_of r hd
            obtain ⟨s2, us, rfl, h2, later2⟩ := so_of r' hd'
            refine ⟨s1, s2, ws, us, rfl, h1, h2, k _ ρ1 _ H1 q1 R1 e1 o1 fun inv' hinv H2 N i2 e2 n1 n2 n3 => ?_⟩
            obtain ⟨g1, r1⟩ := later1 H2 N e2 n2
            obtain ⟨g2, r2⟩ := later2 H2 N e2 n2
            have len : min ws.length us.length = (List.zipWith pairD xs ys).length := by rw [List.length_zipWith, r1.length, r2.length]
            refine ⟨fun i hi => ⟨ws, us, g1, g2, len ▸ hi⟩, ⟨ws, us, g1, g2, len⟩, fun i x H3 hi ⟨T, x', y', w1, w2, ev, hT, eH, _, hx, hy, uq1, uq2⟩ => ?_⟩
            have e1' := uq1 ws g1
            have e2' := uq2 us g2
            subst ev eH e1' e2'
            obtain ⟨a, ha, ra⟩ := r1.get hx
            obtain ⟨b, hb, rb⟩ := r2.get hy
            exact ⟨pairD a b, by rw [List.getElem?_zipWith, ha, hb], hinv H2 T _ i2 hT, ex_new hT, new_pair hT n1 ra rb⟩
end
end DL
end

section
set_option Elab.async false
set_option linter.all false
set_option maxRecDepth 100000
set_option maxHeartbeats 5000000
namespace DL
open PySem L2 PyProof.Rows
section
variable {Γ : Ga} {X : Cx}
/-! ### raise C('m'), C an own class without __init__ -/
structure ExcOk0 (Γ : Ga) (x : Str) (C : Addr) : Prop where
  make : ∀ (X : Cx), X.prog = Γ.P → X.w = Γ.w → X.K = Γ.K → X.mg = Γ.mg → X.base = Γ.base → Gl X x → ∀ (m : Str) (j : Nat) (p p2 pos : Pos), PMk X (.Call (.Name x p) [.Constant (.str m) j p2] [] pos) (fun _ H Q => Q (.ref C) none H)
theorem ExcOk0.at {Γ' : Ga} {x : Str} {C : Addr} (h : ExcOk0 Γ x C) (h1 : Γ'.P = Γ.P := by rfl) (h2 : Γ'.w = Γ.w := by rfl) (h3 : Γ'.K = Γ.K := by rfl) (h4 : Γ'.mg = Γ.mg := by rfl) (h5 : Γ'.base = Γ.base := by rfl) : ExcOk0 Γ' x C :=
  ⟨fun X e1 e2 e3 e4 e5 => h.make X (e1.trans h1) (e2.trans h2) (e3.trans h3) (e4.trans h4) (e5.trans h5)⟩
theorem excOk0_of {x : Str} {C : Addr} {bmB : List Value} {B newId initId : String} (F : ExcBaseFacts B newId initId bmB) (q : PySem.W.excIn Γ.K C bmB newId = true) (gC : Γ.mg x = some (.ref C)) (kC : PySem.W.keepIn Γ.K (.ref C) = true)
    (h1 : PySem.W.subIn Γ.K (.ref C) (.type "BaseException") = some true) (h2 : PySem.W.typeIn Γ.K (.ref C) = some (.type "type")) (hdb : (x == ("__debug__" : Str)) = false := by decide) : ExcOk0 Γ x C :=
  ⟨fun X e1 e2 e3 e4 e5 hg m j p p2 pos => pmk_own F (by rw [e3]; exact q) (by rw [e4]; exact gC) (by rw [e3]; exact kC) (raises_own (by rw [e3]; exact h1) (by rw [e3]; exact h2)) hg hdb⟩
def TRaise0 (C : Addr) : TDS := fun _ _ X => X ⟨C, []⟩
theorem ds_raise0 {x m : Str} {C : Addr} {j : Nat} {p p2 pos pos2 : Pos} (F : ExcOk0 Γ x C) (hg : GlB Γ x) (hcm : Γ.cm = true := by rfl) : DS Γ (.Raise (some (.Call (.Name x p) [.Constant (.str m) j p2] [] pos)) none pos2) (TRaise0 C) :=
  ⟨_, fun X h => ps_raise (h.calm hcm) h.takes (F.make X h.prog h.w h.K h.mg h.base (h.gl hg) m j p p2 pos), fun M H0 ρ σ H D0 D' PX R L k q => L.2 _ _ _ _ q R.ex R.inv ⟨rfl, .inl ⟨rfl, rfl⟩⟩⟩
end
end DL
end

section
set_option Elab.async false
set_option linter.all false
set_option maxRecDepth 100000
set_option maxHeartbeats 5000000
namespace DL
open PySem L2 PyProof.Rows
section
variable {Γ : Ga} {X : Cx} {K : PySem.W.Frag} {M : Mt K} {H0 H H' : Hp} {ρ ρ' : En} {σ σ' : L2.St} {a b e : Expr} {Ta Tb T : TD} {TA : TDA} {pos : Pos}
/-! ### list(range(n)) -/
def TLstRg (Ta : TD) : TD := fun ρ Q X => Ta ρ (fun d ρ1 => match d with | .int j => (j ≤ 100000 ∧ -100000 ≤ j) ∧ Q (.lst (intsD 0 j.toNat)) ρ1 | _ => False) X
theorem rps_ints {N : Addr → Prop} {n : Nat} : Rps N K H (intsD 0 n) ((List.range n).map fun i => V.int (0 + (i : Nat))) := by
  unfold intsD
  induction List.range n with
  | nil => exact .nil
  | cons x xs ih => exact .cons (.int _) ih
theorem de_listRg {p p' pos' : Pos} (ha : DEx Γ a Ta) (hg : GlB Γ "list") (hm : Γ.mg "list" = none) (hg' : GlB Γ "range") (hm' : Γ.mg "range" = none)
    (hs : ∀ env : Env, starEach [a] env = (false, eval a env) :: starEach [] env := by intro _; rfl)
    (hs' : ∀ env : Env, starEach [.Call (.Name "range" p') [a] [] pos'] env = (false, eval (.Call (.Name "range" p') [a] [] pos') env) :: starEach [] env := by intro _; rfl) (hcm : Γ.cm = true := by rfl) :
    DEx Γ (.Call (.Name "list" p) [.Call (.Name "range" p') [a] [] pos'] [] pos) (TLstRg Ta) := by
  obtain ⟨t, pa, sa⟩ := ha
  refine ⟨_, fun X h => pe_listRg (h.calm hcm) (h.gl hg) (by rw [h.mg]; exact hm) (prg_1 (h.gl hg') (by rw [h.mg]; exact hm') (pa X h) (hs _)) (hs' _), fun M H0 ρ σ H Q Q' PX R L q k => sa M H0 ρ σ H _ _ PX R L q fun d ρ1 v H1 q1 R1 e1 o1 r1 => ?_⟩
  cases r1 with
  | int j =>
    obtain ⟨⟨c1, c2⟩, q1⟩ := q1
    refine ⟨j, rfl, ⟨by omega, by omega, by omega, by omega, by omega⟩, fun p hp => k _ ρ1 _ _ q1 (R1.grow (M.fresh _ _ _ R1.inv hp) (Ex.new hp)) (e1.trans (Ex.new hp)) o1 (.lst ⟨R1.new hp, upd_same⟩ ?_)⟩
    unfold rgV
    rw [Int.sub_zero]
    exact rps_ints
  | _ => exact (show False from q1).elim
end
end DL
end

section
set_option Elab.async false
set_option linter.all false
set_option maxRecDepth 100000
set_option maxHeartbeats 5000000
namespace DL
open PySem L2 PyProof.Rows
section
variable {Γ : Ga} {X : Cx} {K : PySem.W.Frag} {a : Expr} {Ta : TD} {pos : Pos}
/-! ### list(text) -/
abbrev sgV (cs : List Nat) : List V := cs.map fun c => V.str (S [c])
abbrev sgD (cs : List Nat) : List D := cs.map fun c => D.str [c]
theorem sg_vals {cs : List Nat} {acc : Array Value} (h : ItemsOf (SignAt (S cs)) acc (S cs).cps.size) : Vals (sgV cs) acc.toList := by
  have hn : (S cs).cps.size = cs.length := by show cs.toArray.size = _; simp
  refine vals_of_idx _ _ (by rw [List.length_map, Array.length_toList, h.1, hn]) fun j u e => ?_
  obtain ⟨c, t, hc, rfl⟩ := h.2 j u (by simpa using e)
  have hc' : cs[j]? = some c := by
    have : cs.toArray[j]? = some c := hc
    simpa using this
  exact ⟨V.str (S [c]), by rw [List.getElem?_map, hc']; rfl, t, rfl⟩
theorem call_listS (hc : X.calm = true) : CallR X (.type "list") (fun xs H Q => ∃ cs : List Nat, xs = [.str (S cs)] ∧ cs.length ≤ 100000 ∧ ∀ l, H l = none → Q (.ref l) (upd H l (.lst (sgV cs)))) := by
  intro pins s σ H xs us Q I r h
  obtain ⟨cs, e, len, q⟩ := h
  subst e
  cases r with
  | cons r rr =>
    cases rr
    obtain ⟨t, rfl⟩ := r
    have hn : (S cs).cps.size = cs.length := by show cs.toArray.size = _; simp
    have big : (100000 : Nat) ≤ sizeLine := by decide
    refine call_list_str (I.ok.hd hc) (S cs) t (fun h' tk acc c kp new items => ?_) (by rw [hn]; omega)
    have vals := sg_vals items
    have ob : ObjOk X.prog X.w (upd H s.heap.objs.size (.lst (sgV cs))) h' s.heap.objs.size (.lst (sgV cs)) := ⟨by rw [List.length_map]; omega, acc.toList, c, vals, by rw [Array.toArray_toList]; exact new⟩
    exact ⟨V.ref s.heap.objs.size, _, I.laid (t' := tk) kp (Nat.le_refl _) ob, rfl, q _ (I.hok.fresh (Nat.le_refl _))⟩
theorem sg_rps {N : Addr → Prop} {H : Hp} : ∀ {cs : List Nat}, Rps N K H (sgD cs) (sgV cs)
  | [] => .nil
  | c :: cs => .cons (.str [c]) sg_rps
def gListS : List D → (D → Prop) → Prop := fun ds P => match ds with
  | [.str cs] => cs.length ≤ 100000 ∧ P (.lst (sgD cs))
  | _ => False
theorem simc_listS : SimC K (fun xs H Q => ∃ cs : List Nat, xs = [.str (S cs)] ∧ cs.length ≤ 100000 ∧ ∀ l, H l = none → Q (.ref l) (upd H l (.lst (sgV cs)))) gListS := fun M N H vs ds Q P hi hn hd r h k => by
  unfold gListS at h
  split at h
  · cases r with
    | cons r rr =>
      cases r
      cases rr
      exact ⟨_, rfl, h.1, fun l hl => k _ _ _ h.2 (M.fresh _ _ _ hi hl) (Ex.new hl) (.lst ⟨fun z => hn l z hl, upd_same⟩ sg_rps)⟩
  · exact h.elim
theorem de_listS {p : Pos} (ha : DEx Γ a Ta) (hg : GlB Γ "list") (hm : Γ.mg "list" = none) (hs : ∀ env : Env, starEach [a] env = (false, eval a env) :: starEach [] env := by intro _; rfl) (hcm : Γ.cm = true := by rfl) : DEx Γ (.Call (.Name "list" p) [a] [] pos) (TCB gListS (TCons Ta TNil)) :=
  de_callTy (fun X h => call_listS (h.calm hcm)) simc_listS (da_cons ha da_nil hs) hg hm (by decide +kernel) (by decide) (by decide) hs
/-- a new list of a text's signs -/
def TListS (T : TD) : TDL := fun ρ Q X => T ρ (fun d ρ1 => match d with | .str cs => cs.length ≤ 100000 ∧ Q (sgD cs) ρ1 | _ => False) X
theorem dl_listS {p : Pos} (ha : DEx Γ a Ta) (hg : GlB Γ "list") (hm : Γ.mg "list" = none) (hs : ∀ env : Env, starEach [a] env = (false, eval a env) :: starEach [] env := by intro _; rfl) (hcm : Γ.cm = true := by rfl) : DLx Γ (.Call (.Name "list" p) [a] [] pos) (TListS Ta) := by
  obtain ⟨t, pa, sa⟩ := ha
  refine ⟨tCB (fun xs H Q => ∃ cs : List Nat, xs = [.str (S cs)] ∧ cs.length ≤ 100000 ∧ ∀ l, H l = none → Q (.ref l) (upd H l (.lst (sgV cs)))) (tCons t tNil), fun X h => pe_callTy (call_listS (h.calm hcm)) (h.gl hg) (by rw [h.mg]; exact hm) (by decide +kernel) (pa_cons (pa X h) pa_nil (hs _)) (by decide) (by decide) (hs _) rfl, fun M H0 ρ σ H Q Q' PX R L q k => sa M H0 ρ σ H _ _ PX R L q fun d ρ1 v H1 q1 R1 e1 o1 r1 => ?_⟩
  cases r1 with
  | str cs =>
    refine ⟨_, rfl, q1.1, fun p hp => k _ ρ1 p _ _ q1.2 (R1.grow (M.fresh _ _ _ R1.inv hp) (Ex.new hp)) (e1.trans (Ex.new hp)) o1 (Nw.back e1 (fun y => M.nfree _ _ R1.inv y hp) (.of hp)) upd_same (R1.new hp) sg_rps sg_rps (R1.av (.of hp) (Ex.new hp))⟩
  | _ => exact (show False from q1).elim
end
end DL
end

section
set_option Elab.async false
set_option linter.all false
set_option maxRecDepth 100000
set_option maxHeartbeats 5000000
/-! An expression that reads an own list as a whole and gives something flat: the list stays one's own. -/
namespace DL
open PySem L2 LamX PyProof.Rows Tm
section
variable {Γ : Ga} {K : PySem.W.Frag} {E : XR} {e : Expr} {T : TD} {F : FE}
theorem rp_flat {N N' : Addr → Prop} {H : Hp} {d : D} {v : V} (r : Rp N K H d v) (h : flatD d = true) : Rp N' K H d v := by
  cases r <;> first | (cases h; done) | skip
  · exact .non
  · exact .bl _
  · exact .int _
  · exact .str _
def TKeep (is : List Nat) (T : TD) : TD := fun ρ Q X => T (frzD is ρ) (fun d _ => flatD d = true ∧ Q d ρ) X
theorem de_keep (is : List Nat) (h : DEx Γ e T) : DEx Γ e (TKeep is T) := by
  obtain ⟨t, p, s⟩ := h
  exact ⟨t, p, fun M H0 ρ σ H Q Q' PX R L q k => s M H0 (frzD is ρ) σ H _ _ PX (rep_frzD R) L q fun d ρ' v H' ⟨fl, q'⟩ R' e' o r => k d ρ v H' q' (R.grow R'.inv e') e' (fun _ z => z) (rp_flat r fl)⟩
def fKeep (is : List Nat) (F : FE) : FE := fun ρ => (F (frzD is ρ)).bind fun d => chk (flatD d) (.ret d)
theorem r_keep {is : List Nat} (h : RE F T) : RE (fKeep is F) (TKeep is T) := by
  intro ρ Q X q
  have q : ((F (frzD is ρ)).bind _).all _ _ := q
  rw [all_bind] at q
  refine h _ _ _ (mono1 (fun d hd => ?_) q)
  obtain ⟨a, b⟩ := all_chk.mp hd
  exact ⟨a, b⟩
end
def oListS : Op1
  | [.str cs] => gd (decide (cs.length ≤ 100000)) (.lst (sgD cs))
  | _ => none
theorem i_listS : imp1 oListS gListS := by
  intro xs z P h p
  match xs, h with
  | [.str cs], h =>
    obtain ⟨a, rfl⟩ := gd_some h
    exact ⟨of_decide_eq_true a, p⟩
def fListS (F : FE) : FL := fun ρ => (F ρ).bind fun d => match d with | .str cs => chk (decide (cs.length ≤ 100000)) (.ret (sgD cs)) | _ => .stuck
theorem r_listS {F : FE} {T : TD} (h : RE F T) : RL (fListS F) (TListS T) := by
  intro ρ Q X q
  have q : ((F ρ).bind _).all _ _ := q
  rw [all_bind] at q
  refine h _ _ _ (mono1 (fun d hd => ?_) q)
  cases d with
  | str cs =>
    obtain ⟨a, b⟩ := all_chk.mp hd
    exact ⟨of_decide_eq_true a, b⟩
  | _ => exact hd.elim
end DL
end

section
set_option Elab.async false
set_option linter.all false
set_option maxRecDepth 100000
set_option maxHeartbeats 5000000
namespace DL
open PySem L2 PyProof.Rows
/-! ### a loop over a list or a tuple -/
def iLT (K : PySem.W.Frag) (t : TE) : TI := fun σ H R => t σ H fun x H1 => ∃ a, x = .ref a ∧ (((∃ xs, SqL K H1 a xs) ∧ R (Itl K a) H1) ∨ ((∃ xs, SqT K H1 a xs) ∧ R (Itt K a) H1))
theorem pi_lt {X : Cx} {tg e : Expr} {t : TE} (he : PE X e t) : PI X tg e (iLT X.K t) := by
  refine PI.mk fun pins s σ H R I h => thn (he.run pins s σ H _ I h) fun v s1 ⟨x, H1, J, r, a, ex, q⟩ => ?_
  subst ex
  have r : v = Value.ref a := r
  subst r
  have fp : ∀ b ∈ [s1.heap.objs.size], FpOk X pins H1 b := fun b hb => by
    have hb : b = s1.heap.objs.size := by simpa using hb
    rw [hb]
    exact J.fpOk (Nat.le_refl _) (J.hok.fresh (Nat.le_refl _))
  rcases q with ⟨⟨xs, h1⟩, q⟩ | ⟨⟨xs, h1⟩, q⟩
  · obtain ⟨its, _, p, _⟩ := J.list h1
    refine (begins_list a its.toArray).iter _ _ _ _ s1 _ p.isList ?_
    exact ⟨_, _, _, _, H1, rfl, J.kept (t' := s1.toks) (fun b o' e => Heap.get?_push_of_some _ e), turn_list a _, ⟨_, Heap.get?_push_size _ rfl, rfl, rfl⟩, fp, q⟩
  · obtain ⟨its, _, p, _⟩ := J.tuple h1
    refine (begins_tuple a its.toArray).iter _ _ _ _ s1 _ p ?_
    exact ⟨_, _, _, _, H1, rfl, J.kept (t' := s1.toks) (fun b o' e => Heap.get?_push_of_some _ e), turn_tuple a _, ⟨_, Heap.get?_push_size _ rfl, rfl, rfl⟩, fp, q⟩
def seqOf : D → Option (List D) | .lst ds => some ds | .tup ds => some ds | _ => none
section
variable {Γ : Ga} {K : PySem.W.Frag} {M : Mt K} {H0 H H' : Hp} {ρ ρ' : En} {σ σ' : L2.St} {e : Expr} {T : TD}
theorem di_any {tg : Expr} (h : DEx Γ e T) : DIx Γ tg e (TItems T seqOf) := by
  obtain ⟨t, p, s⟩ := h
  refine ⟨iLT Γ.K t, fun X h => by rw [← h.K]; exact pi_lt (p X h), fun M H0 ρ σ H R Q' PX Rp' L q k => s M H0 ρ σ H _ _ PX Rp' L q fun d ρ1 v H1 q1 R1 e1 o1 r1 => ?_⟩
  cases r1 with
  | lst q r =>
    rename_i a ds xs
    refine ⟨a, rfl, .inl ⟨⟨xs, q.sq⟩, k ds ρ1 _ H1 q1 R1 e1 o1 fun inv' _ H2 N i2 e2 n1 n2 n3 => ?_⟩⟩
    have z := cut_not e2 q.1 q.2 trivial (n2 a)
    have r2 := r.tr (cut_tr e2 n2)
    have sq : SqL Γ.K H2 a xs := SqL.of z.2
    refine ⟨fun i hi => ?_, ⟨xs, sq, Nat.le_of_eq r.length.symm⟩, fun i x H3 hi y => ?_⟩
    · have w := r.getD (List.getElem?_eq_getElem hi)
      exact ⟨xs, w.choose, sq, w.choose_spec.1⟩
    · have w := r2.get (y.2 xs sq)
      rw [y.1]
      exact ⟨w.choose, w.choose_spec.1, i2, Ex.refl, w.choose_spec.2⟩
  | tup q r =>
    rename_i a ds xs
    refine ⟨a, rfl, .inr ⟨⟨xs, q.sq⟩, k ds ρ1 _ H1 q1 R1 e1 o1 fun inv' _ H2 N i2 e2 n1 n2 n3 => ?_⟩⟩
    have r2 := r.tr (cut_tr e2 n2)
    have sq : SqT Γ.K H2 a xs := (q.tr (cut_tr e2 n2)).sq
    refine ⟨fun i hi => ?_, ⟨xs, sq, Nat.le_of_eq r.length.symm⟩, fun i x H3 hi y => ?_⟩
    · have w := r.getD (List.getElem?_eq_getElem hi)
      exact ⟨xs, w.choose, sq, w.choose_spec.1⟩
    · have w := r2.get (y.2 xs sq)
      rw [y.1]
      exact ⟨w.choose, w.choose_spec.1, i2, Ex.refl, w.choose_spec.2⟩
  | _ => exact (show False from q1).elim
end
end DL
end

section
set_option Elab.async false
set_option linter.all false
set_option maxRecDepth 100000
set_option maxHeartbeats 5000000
namespace DL
open PySem L2 PyProof.Rows RT
section
variable {Γ : Ga} {K : PySem.W.Frag} {M : Mt K} {H0 H H' : Hp} {ρ ρ' : En} {σ σ' : L2.St} {e : Expr} {T : TD}
/-! ### reversed(x), x a list or a tuple -/
def revOf (d : D) : Option (List D) := (seqOf d).map List.reverse
theorem back_at {α : Type} {xs : List α} {i : Nat} (h : i < xs.length) : xs.reverse[i]? = xs[xs.length - 1 - i]? := by
  rw [List.getElem?_reverse h]
theorem di_rev {tg : Expr} {p pos : Pos} (h : DEx Γ e T) (hg : GlB Γ "reversed") (hm : Γ.mg "reversed" = none) (hs : ∀ env : Env, starEach [e] env = (false, eval e env) :: starEach [] env := by intro _; rfl) :
    DIx Γ tg (.Call (.Name "reversed" p) [e] [] pos) (TItems T revOf) := by
  obtain ⟨t, pe, s⟩ := h
  refine ⟨iRevA Γ.K t, fun X h => by rw [← h.K]; exact pi_revA (h.gl hg) (by rw [h.mg]; exact hm) (pe X h) (hs _), fun M H0 ρ σ H R Q' PX Rp' L q k => s M H0 ρ σ H _ _ PX Rp' L q fun d ρ1 v H1 q1 R1 e1 o1 r1 => ?_⟩
  cases r1 with
  | lst q r =>
    rename_i a ds xs
    refine ⟨a, xs, rfl, .inl ⟨q.sq, k ds.reverse ρ1 _ H1 q1 R1 e1 o1 fun inv' _ H2 N i2 e2 n1 n2 n3 => ?_⟩⟩
    have z := cut_not e2 q.1 q.2 trivial (n2 a)
    have r2 := r.tr (cut_tr e2 n2)
    have sq : SqL Γ.K H2 a xs := SqL.of z.2
    have len := r.length
    refine ⟨fun i hi => ?_, by show xs.length ≤ _; rw [List.length_reverse]; omega, fun i x H3 hi y => ?_⟩
    · have hi : i < xs.length := by rw [List.length_reverse] at hi; omega
      exact ⟨hi, xs, _, sq, List.getElem?_eq_getElem (by omega)⟩
    · have hi : i < ds.length := by rw [List.length_reverse] at hi; exact hi
      have w := r2.get (y.2 xs sq)
      rw [y.1]
      exact ⟨w.choose, by rw [back_at hi, len]; exact w.choose_spec.1, i2, Ex.refl, w.choose_spec.2⟩
  | tup q r =>
    rename_i a ds xs
    refine ⟨a, xs, rfl, .inr ⟨q.sq, k ds.reverse ρ1 _ H1 q1 R1 e1 o1 fun inv' _ H2 N i2 e2 n1 n2 n3 => ?_⟩⟩
    have r2 := r.tr (cut_tr e2 n2)
    have sq : SqT Γ.K H2 a xs := (q.tr (cut_tr e2 n2)).sq
    have len := r.length
    refine ⟨fun i hi => ?_, by show xs.length ≤ _; rw [List.length_reverse]; omega, fun i x H3 hi y => ?_⟩
    · have hi : i < xs.length := by rw [List.length_reverse] at hi; omega
      exact ⟨hi, xs, _, sq, List.getElem?_eq_getElem (by omega)⟩
    · have hi : i < ds.length := by rw [List.length_reverse] at hi; exact hi
      have w := r2.get (y.2 xs sq)
      rw [y.1]
      exact ⟨w.choose, by rw [back_at hi, len]; exact w.choose_spec.1, i2, Ex.refl, w.choose_spec.2⟩
  | _ => exact (show False from q1).elim
end
end DL
end

section
set_option Elab.async false
set_option linter.all false
set_option maxRecDepth 100000
set_option maxHeartbeats 5000000
namespace DL
open PySem L2 PyProof.Rows
/-! ### any(x), x a tuple of numbers -/
def rAnyN (K : PySem.W.Frag) : List V → Hp → VK → Prop := fun vs H Q => ∃ (a : Addr) (ns : List Int), vs = [V.ref a] ∧ SqT K H a (ns.map V.int) ∧ Q (.bl (ns.any fun n : Int => n != 0)) H
theorem read_ints {h : Heap} : ∀ {ns : List Int} {us : List Value}, Vals (ns.map V.int) us → ReadsAll h us (ns.map PyData.int) []
  | [], _, .nil => .nil
  | n :: ns, _, .cons ⟨t, e⟩ r => by
    rw [e]
    exact .cons (.int n t) (read_ints r)
theorem any_ints : ∀ ns : List Int, (ns.map PyData.int).any PyData.truthy = ns.any fun n => n != 0
  | [] => rfl
  | n :: ns => by
    rw [List.map_cons, List.any_cons, List.any_cons, any_ints ns]
    rfl
theorem plain_ints : ∀ ns : List Int, PyData.plainAll (ns.map PyData.int) = true
  | [] => rfl
  | n :: ns => by
    have z := plain_ints ns
    rw [List.map_cons]
    simpa [PyData.plainAll, PyData.plain] using z
theorem cr_anyN {X : Cx} (hc : X.calm = true) : CallR X (.builtin "any") (rAnyN X.K) := by
  intro pins s σ H vs us Q I r h
  have ⟨a, ns, e, sq, q⟩ := h
  subst e
  have ⟨its, rv, p, _⟩ := I.tuple sq
  rw [Vals.ref1 r]
  refine PySem.W.any_tuple_data (I.ok.hd hc) p (by simpa using read_ints rv) (plain_ints ns) (fun x hx => ?_) fun h' tk hk => ⟨.bl _, H, I.kept (t' := tk) hk, ?_, q⟩
  · obtain ⟨n, _, rfl⟩ := List.mem_map.mp hx
    trivial
  · rw [any_ints]
    rfl
def numsOf : List D → Option (List Int)
  | [] => some []
  | .int n :: ds => (numsOf ds).map (n :: ·)
  | _ => none
def gAnyN : List D → (D → Prop) → Prop := fun ds P => match ds with
  | [.tup xs] => (match numsOf xs with | some ns => P (.bl (ns.any fun n => n != 0)) | none => False)
  | _ => False
section
variable {Γ : Ga} {K : PySem.W.Frag} {a : Expr} {Ta : TD} {pos : Pos}
theorem nums_v {N : Addr → Prop} {H : Hp} : ∀ {ds : List D} {vs : List V} {ns : List Int}, Rps N K H ds vs → numsOf ds = some ns → vs = ns.map V.int
  | _, _, ns, .nil, e => by cases e; rfl
  | d :: ds, _, ns, .cons r rr, e => by
    cases r with
    | int n =>
      cases z : numsOf ds with
      | none => rw [numsOf, z] at e; cases e
      | some ms =>
        rw [numsOf, z] at e
        cases e
        rw [nums_v rr z]
        rfl
    | _ => cases e
theorem simc_anyN : SimC K (rAnyN K) gAnyN := fun M N H vs ds Q P hi _ _ r h k => by
  unfold gAnyN at h
  split at h
  · split at h
    · rename_i ns e
      cases r with
      | cons r rr =>
        cases rr
        cases r with
        | tup q s => exact ⟨_, ns, rfl, by rw [← nums_v s e]; exact q.sq, k _ _ H h hi Ex.refl (.bl _)⟩
    · exact h.elim
  · exact h.elim
theorem de_anyN {p : Pos} (ha : DEx Γ a Ta) (hg : GlB Γ "any") (hm : Γ.mg "any" = none) (hs : ∀ env : Env, starEach [a] env = (false, eval a env) :: starEach [] env := by intro _; rfl) (hcm : Γ.cm = true := by rfl) : DEx Γ (.Call (.Name "any" p) [a] [] pos) (TCB gAnyN (TCons Ta TNil)) :=
  de_callB (fun X h => by rw [← h.K]; exact cr_anyN (h.calm hcm)) simc_anyN (da_cons ha da_nil hs) hg hm (by decide +kernel) (by decide) (by decide) hs
end
end DL
end

section
set_option Elab.async false
set_option linter.all false
set_option maxRecDepth 100000
set_option maxHeartbeats 5000000
namespace DL
open PySem L2 LamX PyProof.Rows Tm
def fSrc (A : FL) (f : List D → Option (List D)) : FL := fun ρ => (A ρ).bind fun ds => .ofO (f ds)
theorem r_src {A : FL} {TA : TDA} {f : List D → Option (List D)} (h : RL A TA) : RL (fSrc A f) (TSrc TA f) := by
  intro ρ Q X q
  have q : ((A ρ).bind _).all _ _ := q
  rw [all_bind] at q
  refine h _ _ _ (mono1 (fun ds hd => ?_) q)
  obtain ⟨z, e, q⟩ := all_ofO.mp hd
  rw [e]; exact q
def fRaise0 (C : Addr) : FS := fun _ => .exc ⟨C, []⟩
theorem r_raise0 {C : Addr} : RS (fRaise0 C) (TRaise0 C) := fun _ _ _ q => q
def lstRg : D → Option D
  | .int j => if decide (j ≤ 100000) && decide (-100000 ≤ j) then some (.lst (intsD 0 j.toNat)) else none
  | _ => none
def fLstRg (F : FE) : FE := fun ρ => (F ρ).bind fun d => .ofO (lstRg d)
theorem r_lstRg {F : FE} {T : TD} (h : RE F T) : RE (fLstRg F) (TLstRg T) := by
  intro ρ Q X q
  have q : ((F ρ).bind _).all _ _ := q
  rw [all_bind] at q
  refine h _ _ _ (mono1 (fun d hd => ?_) q)
  obtain ⟨z, e, q⟩ := all_ofO.mp hd
  match d, e with
  | .int j, e =>
    have e : (if (decide (j ≤ 100000) && decide (-100000 ≤ j)) = true then some (.lst (intsD 0 j.toNat)) else none) = some z := e
    split at e
    · next hc =>
      have c := Bool.and_eq_true_iff.mp hc
      cases e
      exact ⟨⟨of_decide_eq_true c.1, of_decide_eq_true c.2⟩, q⟩
    · cases e
def oAnyN : Op1
  | [.tup xs] => (numsOf xs).map fun ns => .bl (ns.any fun n => n != 0)
  | _ => none
theorem i_anyN : imp1 oAnyN gAnyN := by
  intro xs z P h p
  match xs, h with
  | [.tup xs], h =>
    have h : (numsOf xs).map (fun ns => D.bl (ns.any fun n => n != 0)) = some z := h
    show match numsOf xs with | some ns => P (.bl (ns.any fun n => n != 0)) | none => False
    cases e : numsOf xs with
    | none => rw [e] at h; cases h
    | some ns => rw [e] at h; cases h; exact p
end DL
end

section
set_option Elab.async false
set_option linter.all false
set_option maxRecDepth 100000
set_option maxHeartbeats 5000000
/-! a tuple some times; int(truth); a < b <= c -/
namespace DL
open PySem L2 PyProof.Rows
theorem once_tuple (l : Addr) (xs : Array Value) (n : Nat) (dd : Option Addr) (sl : Array (Option Value)) (u : Tok) :
    Meets (Builtin.«tuple.__mul__» ⟨[.ref l, .int 1 u], []⟩) (fun _ R s => s.heap.get? l = some { cls := .type "tuple", dict := dd, data := .seq xs n, slots := sl } ∧ R (.ok (.ret (Value.ref l))) s) :=
  .of_wp fun prog w A R s h => by
    obtain ⟨hp, g, d, tk, os⟩ := s
    obtain ⟨hl, hR⟩ := h
    have one := AutoSeq1.idx_int
    wp_walk using wpAny_loadPart' hl
    exact ⟨_, rfl, hR⟩
section
variable {Γ : Ga} {X : Cx} {K : PySem.W.Frag} {M : Mt K} {a b c : Expr} {Ta Tb Tc : TD} {pos : Pos}
def rOnce (K : PySem.W.Frag) : R2 := fun x y H Q => ∃ l xs, x = .ref l ∧ y = .int 1 ∧ SqT K H l xs ∧ Q (.ref l) H
theorem op_once : OpR X (binaryOp .Mult) (rOnce X.K) := by
  intro pins s σ H x y v u Q I rx ry h
  obtain ⟨l, xs, ex, ey, at_, q⟩ := h
  subst ex ey
  cases rx
  obtain ⟨t, eu⟩ := ry
  subst eu
  obtain ⟨its, r, pl, hs⟩ := I.tuple at_
  obtain ⟨o, ho, hc, n, hd⟩ := pl
  obtain ⟨cls, dd, data, sl⟩ := o
  have hc : cls = .type "tuple" := hc
  have hd : data = .seq its.toArray n := hd
  subst hc hd
  have ty : s.TypeIs (.ref l) "tuple" := ⟨_, ho, rfl⟩
  have left : Q (.ref l) H := q
  refine wpAny_binaryOp_repeat_ref (T := "tuple") (U := "int") (by decide) ty (fun s' => typeIs_int s' 1 t) noFill_tuple_mul F.fills_int_mul F.slot_int_rmul repeat_tuple F.slot_int_index.lookup ?_
  refine call_meets F.slot_int_rmul (typeIs_int s 1 t) F.entry_int_rmul (F.args_int_rmul_2 _ _) (int_rmul_tuple 1 t l its.toArray n dd sl) ⟨ho, rfl, ty, ?_⟩
  exact call_meets F.slot_tuple_mul ty F.entry_tuple_mul (F.args_tuple_mul_2 _ _) (once_tuple l its.toArray n dd sl t) ⟨ho, .ref l, H, I, rfl, left⟩
/-- a tuple some times, once or more -/
def gMulT : D → D → (D → Prop) → Prop
  | .tup xs, .int k, P => xs ≠ [] ∧ 1 ≤ k ∧ k ≤ 1000 ∧ xs.length ≤ 1000 ∧ P (.tup (List.replicate k.toNat xs).flatten)
  | _, _, _ => False
theorem rps_app {N : Addr → Prop} {H : Hp} : ∀ {ds es : List D} {xs ys : List V}, Rps N K H ds xs → Rps N K H es ys → Rps N K H (ds ++ es) (xs ++ ys)
  | _, _, _, _, .nil, r => r
  | _, _, _, _, .cons q r', r => .cons q (rps_app r' r)
theorem rps_rep {N : Addr → Prop} {H : Hp} {ds : List D} {xs : List V} (r : Rps N K H ds xs) : ∀ k : Nat, Rps N K H (List.replicate k ds).flatten (List.replicate k xs).flatten
  | 0 => .nil
  | k + 1 => by
    simp only [List.replicate_succ, List.flatten_cons]
    exact rps_app r (rps_rep r k)
theorem simr_mulT : SimR K (rOr (rOnce K) (rRepT K)) gMulT := fun M N H x y dx dy Q P hi hn hd rx ry h k => by
  unfold gMulT at h
  split at h
  · rename_i ds j
    obtain ⟨ne, h1, h2, hz, p⟩ := h
    cases ry
    cases rx with
    | tup qq r =>
      by_cases e : j = 1
      · subst e
        rw [show (1 : Int).toNat = 1 from rfl, List.replicate_one, List.flatten_singleton] at p
        exact .inl ⟨_, _, rfl, rfl, qq.sq, k _ _ H p hi Ex.refl (.tup qq r)⟩
      · rename_i xs
        refine .inr ⟨_, _, _, rfl, rfl, qq.sq, fun z => ne ?_, by omega, h2, by rw [← r.length]; exact hz, fun q hq => k _ _ _ p (M.fresh _ _ _ hi hq) (Ex.new hq) (.tup (.inl ⟨fun z => hn q z hq, upd_same⟩) ((rps_rep r j.toNat).tr (tr_new hq)))⟩
        subst z
        cases r
        rfl
  · exact h.elim
theorem de_mulT (ha : DEx Γ a Ta) (hb : DEx Γ b Tb) : DEx Γ (.BinOp a .Mult b pos) (TOp gMulT Ta Tb) := de_bin (fun X h _ => by rw [← h]; exact OpR.or op_once op_repT) simr_mulT ha hb
/-- int(truth) -/
def gIntB : List D → (D → Prop) → Prop := fun ds P => match ds with
  | [.bl k] => P (.int (if k then 1 else 0))
  | _ => False
theorem simc_intB : SimC K (fun xs H Q => (∃ i, xs = [.int i] ∧ Q (.int i) H) ∨ ∃ k, xs = [.bl k] ∧ Q (.int (if k then 1 else 0)) H) gIntB := fun M N H vs ds Q P hi hn hd r h k => by
  unfold gIntB at h
  split at h
  · cases r with
    | cons r rr =>
      cases r
      cases rr
      exact .inr ⟨_, rfl, k _ _ H h hi Ex.refl (.int _)⟩
  · exact h.elim
theorem de_intB {p : Pos} (ha : DEx Γ a Ta) (hg : GlB Γ "int") (hm : Γ.mg "int" = none) (hs : ∀ env : Env, starEach [a] env = (false, eval a env) :: starEach [] env := by intro _; rfl) : DEx Γ (.Call (.Name "int" p) [a] [] pos) (TCB gIntB (TCons Ta TNil)) :=
  de_callTy (fun X h => call_int1) simc_intB (da_cons ha da_nil hs) hg hm (by decide +kernel) (by decide) (by decide) hs
/-- a < b <= c -/
theorem de_ltLe (ha : DEx Γ a Ta) (hb : DEx Γ b Tb) (hc : DEx Γ c Tc) (hm : lastMarks [.Lt, .LtE] [b, c] = false := by with_unfolding_all rfl) : DEx Γ (.Compare a [.Lt, .LtE] [b, c] pos) (TChain gLt gLe Ta Tb Tc) := by
  obtain ⟨ta, pa, sa⟩ := ha
  obtain ⟨tb, pb, sb⟩ := hb
  obtain ⟨tc, pc, sc⟩ := hc
  exact ⟨_, fun X h => pe_chain op_lt op_le (pa X h) (pb X h) (pc X h) hm, sim_chain simr_B0 simr_B0 sa sb sc⟩
theorem dt_ltLe (ha : DEx Γ a Ta) (hb : DEx Γ b Tb) (hc : DEx Γ c Tc) (hm : lastMarks [.Lt, .LtE] [b, c] = false := by with_unfolding_all rfl) : DTx Γ (.Compare a [.Lt, .LtE] [b, c] pos) (TTest (TChain gLt gLe Ta Tb Tc)) := by
  obtain ⟨ta, pa, sa⟩ := ha
  obtain ⟨tb, pb, sb⟩ := hb
  obtain ⟨tc, pc, sc⟩ := hc
  exact ⟨_, fun X h => pt_chain op_lt op_le (pa X h) (pb X h) (pc X h) hm, sim_test (sim_chain simr_B0 simr_B0 sa sb sc)⟩
end
end DL
end

section
set_option Elab.async false
set_option linter.all false
set_option maxRecDepth 100000
set_option maxHeartbeats 5000000
namespace DL
open PySem L2 LamX PyProof.Rows Tm
def oMulT : Op2
  | .tup xs, .int k => gd (decide (xs ≠ []) && decide (1 ≤ k) && decide (k ≤ 1000) && decide (xs.length ≤ 1000)) (.tup (List.replicate k.toNat xs).flatten)
  | _, _ => none
theorem i_mulT : imp2 oMulT gMulT := by
  intro x y z P h p
  cases x <;> cases y <;> first | (cases h; done) | skip
  obtain ⟨a, rfl⟩ := gd_some h
  obtain ⟨a, b⟩ := Bool.and_eq_true_iff.mp a
  obtain ⟨a, c⟩ := Bool.and_eq_true_iff.mp a
  obtain ⟨a, d⟩ := Bool.and_eq_true_iff.mp a
  exact ⟨of_decide_eq_true a, of_decide_eq_true d, of_decide_eq_true c, of_decide_eq_true b, p⟩
def oIntB : Op1
  | [.bl k] => some (.int (if k then 1 else 0))
  | _ => none
theorem i_intB : imp1 oIntB gIntB := by
  intro xs z P h p
  match xs, h with
  | [.bl k], h => cases h; exact p
end DL
end

section
set_option Elab.async false
set_option linter.all false
set_option maxRecDepth 100000
set_option maxHeartbeats 5000000
/-! What the laws share: signs, texts, runs of statements. -/
namespace DL
open PySem L2 DL PyProof.Rows
def isNum : D → Int → Int → Bool
  | .int i, a, b => decide (a ≤ i) && decide (i ≤ b)
  | _, _, _ => false
def LET : List Nat := [97, 98, 99, 100, 101, 102, 103, 104, 105, 106, 107, 108, 109, 110, 111, 112, 113, 114, 115, 116, 117, 118, 119, 120, 121, 122]
def isLet : D → Bool
  | .str [c] => decide (c ∈ LET)
  | _ => false
def sgC (c : Nat) : Bool := decide (c ∈ LET) || c == 46
def isSg : D → Bool
  | .str [c] => sgC c
  | _ => false
def okSg (v : D) : Bool := match v with
  | .str cs => okC cs && decide (cs.length ≤ 1000)
  | v => flatD v
theorem okSg_str {cs : List Nat} (h : okSg (.str cs) = true) : okC cs = true ∧ cs.length ≤ 1000 := by
  have := Bool.and_eq_true_iff.mp (show (okC cs && decide (cs.length ≤ 1000)) = true from h)
  exact ⟨this.1, of_decide_eq_true this.2⟩
theorem isLet_no {cs : List Nat} (h : ¬ cs.length = 1) : isLet (.str cs) = false := by
  match cs, h with
  | [], _ => rfl
  | [c], h => exact absurd rfl h
  | a :: b :: r, _ => rfl
theorem okC_okB {cs : List Nat} (h : okC cs = true) : okB 8 (.str cs) = true := h
def isText (v : D) (n : Int) : Bool := match v with
  | .str cs => ((cs.length : Int) == n) && cs.all sgC
  | _ => false
theorem lcL_map {G : FG} {TU : FT} {T : FE} {ρ : En} {f : D → D} : ∀ {ds : List D}, (∀ d ∈ ds, ∃ ρ2, G d ρ = some ρ2 ∧ TU ρ2 = .ret true ∧ T ρ2 = .ret (f d)) → lcL G TU T ρ ds = .ret (ds.map f)
  | [], _ => rfl
  | d :: ds, h => by
    obtain ⟨ρ2, e1, e2, e3⟩ := h d (List.mem_cons_self ..)
    have ih := lcL_map (ds := ds) fun x hx => h x (List.mem_cons_of_mem _ hx)
    simp only [lcL, e1, e2, e3, ih, Tm.bind_ret, List.map]
theorem boolsOf_map {α : Type} {f : α → Bool} : ∀ {xs : List α}, boolsOf (xs.map fun x => D.bl (f x)) = some (xs.map f)
  | [] => rfl
  | x :: xs => by
    show (boolsOf (xs.map fun x => D.bl (f x))).map (f x :: ·) = _
    rw [boolsOf_map]
    rfl
theorem all_id {α : Type} {f : α → Bool} {xs : List α} : (xs.map f).all id = xs.all f := by
  rw [List.all_map]
  rfl
theorem okC_mem {cs : List Nat} (h : okC cs = true) {c : Nat} (hc : c ∈ cs) : okSg (.str [c]) = true := by
  have := List.all_eq_true.mp h c hc
  simp [okSg, okC]
  simpa using this
def over12 : D → D → Bool
  | .int i, .int j => decide (12 < i * j)
  | _, _ => false
def wSide (w h : D) : D := if isNum w 1 5 = true then (if isNum h 1 5 = true then (if over12 w h = true then .str [104, 101, 105, 103, 104, 116] else .non) else .str [104, 101, 105, 103, 104, 116]) else .str [119, 105, 100, 116, 104]
theorem isNum_int {v : D} {a b : Int} (h : isNum v a b = true) : ∃ i : Int, v = .int i ∧ a ≤ i ∧ i ≤ b := by
  cases v <;> first | (cases h; done) | skip
  rename_i i
  obtain ⟨h1, h2⟩ := Bool.and_eq_true_iff.mp h
  exact ⟨i, rfl, of_decide_eq_true h1, of_decide_eq_true h2⟩
def cellsT : List Nat := [99, 101, 108, 108, 115]
def badPart (w h c : D) : Option (List Nat) := match wSide w h with
  | .str p => some p
  | _ => (match w, h with
    | .int i, .int j => if isText c (i * j) = true then none else some cellsT
    | _, _ => none)
theorem wSide_cases {w h : D} : (∃ p, wSide w h = .str p ∧ (p = [104, 101, 105, 103, 104, 116] ∨ p = [119, 105, 100, 116, 104])) ∨ (wSide w h = .non ∧ ∃ i j : Int, w = .int i ∧ h = .int j ∧ 1 ≤ i ∧ i ≤ 5 ∧ 1 ≤ j ∧ j ≤ 5 ∧ i * j ≤ 12) := by
  unfold wSide
  cases e : isNum w 1 5 with
  | false => exact .inl ⟨_, rfl, .inr rfl⟩
  | true =>
    rw [if_pos rfl]
    cases e2 : isNum h 1 5 with
    | false => exact .inl ⟨_, rfl, .inl rfl⟩
    | true =>
      rw [if_pos rfl]
      cases e3 : over12 w h with
      | true => exact .inl ⟨_, rfl, .inl rfl⟩
      | false =>
        obtain ⟨i, rfl, a, b⟩ := isNum_int e
        obtain ⟨j, rfl, c, d⟩ := isNum_int e2
        have := of_decide_eq_false e3
        exact .inr ⟨rfl, i, j, rfl, rfl, a, b, c, d, by omega⟩
theorem beq_dc {α : Type} [BEq α] [LawfulBEq α] [DecidableEq α] (a b : α) : (a == b) = decide (a = b) := by
  by_cases h : a = b
  · simp [h]
  · simp [h, beq_eq_false_iff_ne.mpr h]
theorem atI_in {α : Type} {xs : List α} {k : Int} (h0 : 0 ≤ k) (h1 : k < xs.length) : ∃ x, atI xs k = some x ∧ x ∈ xs := by
  have hlt : k.toNat < xs.length := by omega
  refine ⟨xs[k.toNat], ?_, List.getElem_mem _⟩
  unfold atI ixN
  rw [if_pos h0, if_pos h1]
  show xs[k.toNat]? = _
  rw [List.getElem?_eq_getElem hlt]
theorem lcL_all {G : FG} {TU : FT} {T : FE} {ρ : En} {P : D → Prop} : ∀ {ds : List D} {Q : List D → Prop}, (∀ d ∈ ds, ∃ ρ2, G d ρ = some ρ2 ∧ TU ρ2 = .ret true ∧ (T ρ2).all P XF) → (∀ r, r.length = ds.length → (∀ y ∈ r, P y) → Q r) → (lcL G TU T ρ ds).all Q XF
  | [], Q, _, q => q [] rfl (fun _ z => by cases z)
  | d :: ds, Q, h, q => by
    obtain ⟨ρ2, e1, e2, e3⟩ := h d (List.mem_cons_self ..)
    simp only [lcL, e1, e2, Tm.bind_ret, Tm.all_bind]
    refine Tm.mono1 (fun y hy => ?_) e3
    refine lcL_all (ds := ds) (fun x hx => h x (List.mem_cons_of_mem _ hx)) fun r hr hp => ?_
    refine q (y :: r) (by rw [List.length_cons, hr]; rfl) fun z hz => ?_
    obtain rfl | hz := List.mem_cons.mp hz
    · exact hy
    · exact hp z hz
theorem textsOf_chars : ∀ {r : List D}, (∀ y ∈ r, ∃ c, y = .str [c] ∧ c ∈ [97, 98, 99, 100, 101, 102, 103, 104, 46]) → ∃ cs : List Nat, textsOf r = some (cs.map fun c => [c]) ∧ cs.length = r.length ∧ ∀ c ∈ cs, c ∈ [97, 98, 99, 100, 101, 102, 103, 104, 46]
  | [], _ => ⟨[], rfl, rfl, fun _ z => by cases z⟩
  | y :: r, h => by
    obtain ⟨c, rfl, hc⟩ := h y (List.mem_cons_self ..)
    obtain ⟨cs, e, l, m⟩ := textsOf_chars (r := r) fun z hz => h z (List.mem_cons_of_mem _ hz)
    refine ⟨c :: cs, ?_, by rw [List.length_cons, l]; rfl, fun z hz => ?_⟩
    · show (textsOf r).map ([c] :: ·) = _
      rw [e]
      rfl
    · obtain rfl | hz := List.mem_cons.mp hz
      · exact hc
      · exact m z hz
theorem joinL_nil : ∀ {cs : List Nat}, TL.joinL [] (cs.map fun c => [c]) = cs
  | [] => rfl
  | [c] => rfl
  | c :: d :: r => by
    have ih := joinL_nil (cs := d :: r)
    show [c] ++ [] ++ TL.joinL [] ((d :: r).map fun c => [c]) = _
    rw [ih]
    rfl
theorem sum_ones : ∀ {cs : List Nat}, ((cs.map fun c => [c]).map List.length).sum = cs.length
  | [] => rfl
  | c :: r => by
    have := sum_ones (cs := r)
    simp only [List.map, List.sum_cons, List.length_cons, List.length_nil] at this ⊢
    omega
theorem mul_eq {i j : Int} (h : i.natAbs < 18446744073709551616) : oMul (.int i) (.int j) = some (.int (i * j)) := gd_t (by
  show (decide (i.natAbs < 2 ^ 64) || decide (j.natAbs < 2 ^ 64)) = true
  rw [decide_eq_true (show i.natAbs < 2 ^ 64 from h)]
  rfl)
theorem rng1_eq {k : Int} (h0 : 0 ≤ k) (h1 : k ≤ 100000) : rng1 [.int k] = some (intsD 0 k.toNat) := by
  show (if decide (k ≤ 100000) && decide (-100000 ≤ k) then some (intsD 0 k.toNat) else none) = _
  rw [decide_eq_true h1, decide_eq_true (by omega)]
  rfl
theorem size_le {w h : Int} (w1 : 1 ≤ w) (w5 : w ≤ 5) (h1 : 1 ≤ h) (h5 : h ≤ 5) : 1 ≤ w * h ∧ w * h ≤ 25 := by
  have a : 1 * 1 ≤ w * h := Int.mul_le_mul w1 h1 (by decide) (by omega)
  have b : w * h ≤ 5 * 5 := Int.mul_le_mul w5 h5 (by omega) (by decide)
  omega
theorem sg_sgC {c : Nat} (h : c ∈ [97, 98, 99, 100, 101, 102, 103, 104, 46]) : sgC c = true ∧ c < 1114112 := by
  simp only [List.mem_cons, List.mem_nil_iff, or_false] at h
  rcases h with z | z | z | z | z | z | z | z | z <;> (subst z; decide)
theorem okSg_of {cs : List Nat} (h : okC cs = true) (l : cs.length ≤ 1000) : okSg (.str cs) = true := by
  show (okC cs && decide (cs.length ≤ 1000)) = true
  rw [h, decide_eq_true l]; rfl
theorem num_ok {i : Int} (h1 : 1 ≤ i) (h5 : i ≤ 5) : isNum (.int i) 1 5 = true := by
  show (decide (1 ≤ i) && decide (i ≤ 5)) = true
  rw [decide_eq_true h1, decide_eq_true h5]; rfl
theorem good_part {w h : Int} {cs : List Nat} (w1 : 1 ≤ w) (w5 : w ≤ 5) (h1 : 1 ≤ h) (h5 : h ≤ 5) (wh : w * h ≤ 12) (l : (cs.length : Int) = w * h) (a : cs.all sgC = true) : badPart (.int w) (.int h) (.str cs) = none := by
  unfold badPart wSide
  rw [num_ok w1 w5, num_ok h1 h5, if_pos rfl, if_pos rfl, show over12 (.int w) (.int h) = false from decide_eq_false (by omega), if_neg Bool.false_ne_true]
  show (if isText (.str cs) (w * h) = true then none else some cellsT) = none
  rw [show isText (.str cs) (w * h) = true from by
    show (((cs.length : Int) == w * h) && cs.all sgC) = true
    rw [a, beq_iff_eq.mpr l]; rfl, if_pos rfl]
theorem seq_to {U U' : FS} {ρ ρ1 : En} {Q : Oc → Prop} {X : XP} (e : U ρ = .ret (.nx ρ1)) (h : (U' ρ1).all Q X) : (fSeq U U' ρ).all Q X := by
  unfold fSeq
  rw [e]
  exact h
theorem seq_any {U U' : FS} {ρ : En} {P : En → Prop} {Q : Oc → Prop} {X : XP} (e : (U ρ).all (fun o => ∃ ρ1, o = .nx ρ1 ∧ P ρ1) X) (h : ∀ ρ1, P ρ1 → (U' ρ1).all Q X) : (fSeq U U' ρ).all Q X := by
  unfold fSeq
  rw [Tm.all_bind]
  refine Tm.mono1 (fun o ho => ?_) e
  obtain ⟨ρ1, rfl, p⟩ := ho
  exact h ρ1 p
theorem lenI_eq {f : Fn} {C : Addr} {a : FE} {ρ : En} {fs : List (Str × D)} {n : Int} (ha : a ρ = .ret (.ins C fs)) (hf : f [.ins C fs] = .ret (.int n)) (h0 : 0 ≤ n) (h1 : n < 1000000) : fLenI f C a ρ = .ret (.int n) := by
  unfold fLenI
  rw [ha]
  show Tm.chk (decide (C = C)) ((f [.ins C fs]).bind _) = _
  rw [decide_eq_true rfl, hf]
  show Tm.chk (decide (0 ≤ n) && decide (n < 2 ^ 63)) _ = _
  rw [decide_eq_true h0, decide_eq_true (show n < 2 ^ 63 by omega)]
  rfl
theorem cut_from {α : Type} {xs : List α} {k : Nat} (h : k ≤ xs.length) : DL.cutD xs (some (k : Int)) none = xs.drop k := by
  unfold DL.cutD
  rw [HT.sIx_nat, HT.sIx_none, Nat.min_eq_left h]
  rw [List.take_of_length_le (by rw [List.length_drop]; exact Nat.le_refl _)]
theorem cut_to {α : Type} {xs : List α} {k : Nat} (h : k ≤ xs.length) : DL.cutD xs none (some (k : Int)) = xs.take k := by
  unfold DL.cutD
  rw [HT.sIx_nat, HT.sIx_none, Nat.min_eq_left h]
  rfl
theorem okC_drop {cs : List Nat} {n : Nat} (h : okC cs = true) : okC (cs.drop n) = true := List.all_eq_true.mpr fun c hc => List.all_eq_true.mp h c (List.mem_of_mem_drop hc)
theorem okC_app {a b : List Nat} (h : okC a = true) (h' : okC b = true) : okC (a ++ b) = true := by
  unfold okC at *
  rw [List.all_append, h, h']
  rfl
theorem eqI_to {f : Fn} {C : Addr} {neg : Bool} {a b : FE} {ρ : En} {fs gs : List (Str × D)} {c : Bool} (ha : a ρ = .ret (.ins C fs)) (hb : b ρ = .ret (.ins C gs)) (hf : f [.ins C fs, .ins C gs] = .ret (.bl c)) : fEqI f C neg a b ρ = .ret (.bl (if neg = true then !c else c)) := by
  unfold fEqI
  rw [ha]
  show (b ρ).bind _ = _
  rw [hb]
  show Tm.chk (decide (C = C) && decide (C = C)) ((f [.ins C fs, .ins C gs]).bind _) = _
  rw [decide_eq_true rfl, hf]
  rfl
theorem call3 {f : Fn} {a b c : FE} {ρ : En} {x y z : D} (ha : a ρ = .ret x) (hb : b ρ = .ret y) (hc : c ρ = .ret z) : fCall f 3 (fCons a (fCons b (fCons c fNil))) ρ = f [x, y, z] := by
  simp only [fCall, fCons, fNil, ha, hb, hc, Tm.bind_ret]
  rfl
end DL
end

section
set_option Elab.async false
set_option linter.all false
set_option maxRecDepth 100000
set_option maxHeartbeats 5000000
namespace K53
open PySem L2 DL PyProof.Rows
def top (i : Nat) : Stmt := PySem.Challenge.pw_rakedpapers_k53_whole_rakes_counted.main.body.getD i (.Pass ⟨0, 0, 0, 0⟩)
structure Zs where
  BathError : Addr
  InvalidBath : Addr
  InvalidRecipe : Addr
  UnknownCell : Addr
  InvalidSign : Addr
  InvalidDeed : Addr
  InvalidNumber : Addr
  Bath : Addr
structure Fx (Γ : Ga) (Z : Zs) : Prop where
  b_int : Γ.mg "int" = none
  b_bool : Γ.mg "bool" = none
  b_str : Γ.mg "str" = none
  b_tuple : Γ.mg "tuple" = none
  b_list : Γ.mg "list" = none
  b_len : Γ.mg "len" = none
  b_all : Γ.mg "all" = none
  b_range : Γ.mg "range" = none
  b_isinstance : Γ.mg "isinstance" = none
  b_enumerate : Γ.mg "enumerate" = none
  b_zip : Γ.mg "zip" = none
  b_divmod : Γ.mg "divmod" = none
  b_ValueError : Γ.mg "ValueError" = none
  g_LETTERS : GlC Γ.mg "LETTERS" (.str [97, 98, 99, 100, 101, 102, 103, 104, 105, 106, 107, 108, 109, 110, 111, 112, 113, 114, 115, 116, 117, 118, 119, 120, 121, 122])
  g_NOTHING : GlC Γ.mg "NOTHING" (.str [46])
  g_MOST_SIDE : GlC Γ.mg "MOST_SIDE" (.int (5))
  g_MOST_CELLS : GlC Γ.mg "MOST_CELLS" (.int (12))
  g_MOST_STRIDE : GlC Γ.mg "MOST_STRIDE" (.int (9))
  g_MOST_DEEDS : GlC Γ.mg "MOST_DEEDS" (.int (12))
  g_MOST_TIMES : GlC Γ.mg "MOST_TIMES" (.int (1000000000000000000))
  g_MOST_SEEN : GlC Γ.mg "MOST_SEEN" (.int (1000000000000000))
  c_BathError : GlC Γ.mg "BathError" (.ref Z.BathError)
  c_InvalidBath : GlC Γ.mg "InvalidBath" (.ref Z.InvalidBath)
  c_InvalidRecipe : GlC Γ.mg "InvalidRecipe" (.ref Z.InvalidRecipe)
  c_UnknownCell : GlC Γ.mg "UnknownCell" (.ref Z.UnknownCell)
  c_InvalidSign : GlC Γ.mg "InvalidSign" (.ref Z.InvalidSign)
  c_InvalidDeed : GlC Γ.mg "InvalidDeed" (.ref Z.InvalidDeed)
  c_InvalidNumber : GlC Γ.mg "InvalidNumber" (.ref Z.InvalidNumber)
  c_Bath : GlC Γ.mg "Bath" (.ref Z.Bath)
  cls_Bath : Cls Γ.K Z.Bath
  na_Bath_column_count : NoAttr Γ.K Z.Bath "column_count"
  na_Bath_row_count : NoAttr Γ.K Z.Bath "row_count"
  na_Bath_signs : NoAttr Γ.K Z.Bath "signs"
  ic_Bath : IcOk Γ.K Z.Bath
abbrev s_is_number : Stmt := top 15
abbrev n_is_number : List Str := ["value", "least", "most"]
theorem sc_is_number : FnScope n_is_number ["value", "least", "most"] (defScope s_is_number) := ⟨rfl, rfl, rfl, by decide +kernel, rfl, by decide +kernel, by decide +kernel⟩
def T_is_number (Z : Zs) (row : Addr) : TDS := (TRet (TAndV (TCB gIsi (TCons (TV 0) (TCons (TC (.ty .int)) TNil))) (TAndV (TNotV (TCB gIsi (TCons (TV 0) (TCons (TC (.ty .bool)) TNil)))) (TChain gLe gLe (TV 1) (TV 0) (TV 2)))))
def U_is_number (Z : Zs) (row : Addr) : FS := (fRet (fAndV (fCB oIsi (fCons (fVar 0) (fCons (fC (.ty .int)) fNil))) (fAndV (fNotV (fCB oIsi (fCons (fVar 0) (fCons (fC (.ty .bool)) fNil)))) (fChain oLe oLe (fVar 1) (fVar 0) (fVar 2)))))
@[irreducible] def F_is_number (Z : Zs) (row : Addr) : Fn := fDef 3 (U_is_number Z row)
theorem Fe_is_number (Z : Zs) : F_is_number Z = fun row => fDef 3 (U_is_number Z row) := by
  funext row
  unfold F_is_number
  rfl
theorem ds_is_number {Γ : Ga} {Z : Zs} (B : Fx Γ Z) (E : XR) : DSs (gaOf Γ 0 n_is_number s_is_number E) (defBody s_is_number) (T_is_number Z E.row) :=
  (ds_one (ds_ret (de_and (de_isi (da_cons (de_var 0) (da_cons (de_ty .int (by rfl) B.b_int (by decide +kernel)) da_nil)) (by rfl) B.b_isinstance) (de_and (de_not (de_isi (da_cons (de_var 0) (da_cons (de_ty .bool (by rfl) B.b_bool (by decide +kernel)) da_nil)) (by rfl) B.b_isinstance)) (de_one (de_leLe (de_var 1) (de_var 0) (de_var 2)))))))
theorem rs_is_number (Z : Zs) (row : Addr) : RS (U_is_number Z row) (T_is_number Z row) :=
  (r_ret (r_andV (r_cb i_isi (r_cons r_var (r_cons r_c r_nil))) (r_andV (r_notV (r_cb i_isi (r_cons r_var (r_cons r_c r_nil)))) (r_chain i_le i_le r_var r_var r_var))))
theorem rf_is_number (Z : Zs) (row : Addr) : RowF (specR (F_is_number Z)) row (F_is_number Z row) := rowF _ row
theorem ok_is_number {Γ : Ga} {Z : Zs} (B : Fx Γ Z) {f : Addr} {fd : FuncData} (F : Fun Γ.K "is_number" "is_number" s_is_number f fd) (hm : Γ.mg "is_number" = some (.ref f)) (hb : Binds Γ.K fd ["value", "least", "most"] []) : DefOk Γ 1 "is_number" 3 (specR (F_is_number Z)) := by
  rw [Fe_is_number]
  exact fdef_ok F sc_is_number rfl (fun E => ds_is_number B E) (rs_is_number Z) hm hb
abbrev s_is_letter : Stmt := top 16
abbrev n_is_letter : List Str := ["value"]
theorem sc_is_letter : FnScope n_is_letter ["value"] (defScope s_is_letter) := ⟨rfl, rfl, rfl, by decide +kernel, rfl, by decide +kernel, by decide +kernel⟩
def T_is_letter (Z : Zs) (row : Addr) : TDS := (TRet (TAndV (TCB gIsi (TCons (TV 0) (TCons (TC (.ty .str)) TNil))) (TAndV (TOp gEq (TCB gLen (TCons (TV 0) TNil)) (TC (.int 1))) (TOp (gIn false) (TV 0) (TC (.str [97, 98, 99, 100, 101, 102, 103, 104, 105, 106, 107, 108, 109, 110, 111, 112, 113, 114, 115, 116, 117, 118, 119, 120, 121, 122]))))))
def U_is_letter (Z : Zs) (row : Addr) : FS := (fRet (fAndV (fCB oIsi (fCons (fVar 0) (fCons (fC (.ty .str)) fNil))) (fAndV (fOp oEq (fCB oLen (fCons (fVar 0) fNil)) (fC (.int 1))) (fOp (oIn false) (fVar 0) (fC (.str [97, 98, 99, 100, 101, 102, 103, 104, 105, 106, 107, 108, 109, 110, 111, 112, 113, 114, 115, 116, 117, 118, 119, 120, 121, 122]))))))
@[irreducible] def F_is_letter (Z : Zs) (row : Addr) : Fn := fDef 1 (U_is_letter Z row)
theorem Fe_is_letter (Z : Zs) : F_is_letter Z = fun row => fDef 1 (U_is_letter Z row) := by
  funext row
  unfold F_is_letter
  rfl
theorem ds_is_letter {Γ : Ga} {Z : Zs} (B : Fx Γ Z) (E : XR) : DSs (gaOf Γ 0 n_is_letter s_is_letter E) (defBody s_is_letter) (T_is_letter Z E.row) :=
  (ds_one (ds_ret (de_and (de_isi (da_cons (de_var 0) (da_cons (de_ty .str (by rfl) B.b_str (by decide +kernel)) da_nil)) (by rfl) B.b_isinstance) (de_and (de_eq (de_len (de_var 0) (by rfl) B.b_len) de_int) (de_one (de_in (de_var 0) (de_gc B.g_LETTERS)))))))
theorem rs_is_letter (Z : Zs) (row : Addr) : RS (U_is_letter Z row) (T_is_letter Z row) :=
  (r_ret (r_andV (r_cb i_isi (r_cons r_var (r_cons r_c r_nil))) (r_andV (r_op i_eq (r_cb i_len (r_cons r_var r_nil)) r_c) (r_op i_in r_var r_c))))
theorem rf_is_letter (Z : Zs) (row : Addr) : RowF (specR (F_is_letter Z)) row (F_is_letter Z row) := rowF _ row
theorem ok_is_letter {Γ : Ga} {Z : Zs} (B : Fx Γ Z) {f : Addr} {fd : FuncData} (F : Fun Γ.K "is_letter" "is_letter" s_is_letter f fd) (hm : Γ.mg "is_letter" = some (.ref f)) (hb : Binds Γ.K fd ["value"] []) : DefOk Γ 1 "is_letter" 1 (specR (F_is_letter Z)) := by
  rw [Fe_is_letter]
  exact fdef_ok F sc_is_letter rfl (fun E => ds_is_letter B E) (rs_is_letter Z) hm hb
abbrev s_is_sign : Stmt := top 17
abbrev n_is_sign : List Str := ["value"]
theorem sc_is_sign : FnScope n_is_sign ["value"] (defScope s_is_sign) := ⟨rfl, rfl, rfl, by decide +kernel, rfl, by decide +kernel, by decide +kernel⟩
def T_is_sign (Z : Zs) (row : Addr) : TDS := (TRet (TOrV (TCall row (specR (F_is_letter Z)) 1 (TCons (TV 0) TNil)) (TOp gEq (TV 0) (TC (.str [46])))))
def U_is_sign (Z : Zs) (row : Addr) : FS := (fRet (fOrV (fCall (F_is_letter Z row) 1 (fCons (fVar 0) fNil)) (fOp oEq (fVar 0) (fC (.str [46])))))
@[irreducible] def F_is_sign (Z : Zs) (row : Addr) : Fn := fDef 1 (U_is_sign Z row)
theorem Fe_is_sign (Z : Zs) : F_is_sign Z = fun row => fDef 1 (U_is_sign Z row) := by
  funext row
  unfold F_is_sign
  rfl
theorem ds_is_sign {Γ : Ga} {Z : Zs} (B : Fx Γ Z) (F_is_letter : DefOk Γ 1 "is_letter" 1 (specR (F_is_letter Z))) (E : XR) : DSs (gaOf Γ 1 n_is_sign s_is_sign E) (defBody s_is_sign) (T_is_sign Z E.row) :=
  (ds_one (ds_ret (de_or (de_call F_is_letter.at (Nat.le_of_ble_eq_true rfl) (by rfl) (da_cons (de_var 0) da_nil)) (de_one (de_eq (de_var 0) (de_gc B.g_NOTHING))))))
theorem rs_is_sign (Z : Zs) (row : Addr) : RS (U_is_sign Z row) (T_is_sign Z row) :=
  (r_ret (r_orV (r_callS (rf_is_letter Z row) (r_cons r_var r_nil)) (r_op i_eq r_var r_c)))
theorem rf_is_sign (Z : Zs) (row : Addr) : RowF (specR (F_is_sign Z)) row (F_is_sign Z row) := rowF _ row
theorem ok_is_sign {Γ : Ga} {Z : Zs} (B : Fx Γ Z) (F_is_letter : DefOk Γ 1 "is_letter" 1 (specR (F_is_letter Z))) {f : Addr} {fd : FuncData} (F : Fun Γ.K "is_sign" "is_sign" s_is_sign f fd) (hm : Γ.mg "is_sign" = some (.ref f)) (hb : Binds Γ.K fd ["value"] []) : DefOk Γ 2 "is_sign" 1 (specR (F_is_sign Z)) := by
  rw [Fe_is_sign]
  exact fdef_ok F sc_is_sign rfl (fun E => ds_is_sign B F_is_letter E) (rs_is_sign Z) hm hb
abbrev s_is_sign_text : Stmt := top 18
abbrev n_is_sign_text : List Str := ["value", "length", "sign"]
theorem sc_is_sign_text : FnScope n_is_sign_text ["value", "length"] (defScope s_is_sign_text) := ⟨rfl, rfl, rfl, by decide +kernel, rfl, by decide +kernel, by decide +kernel⟩
def T_is_sign_text (Z : Zs) (row : Addr) : TDS := (TRet (TAndV (TCB gIsi (TCons (TV 0) (TCons (TC (.ty .str)) TNil))) (TAndV (TOp gEq (TCB gLen (TCons (TV 0) TNil)) (TV 1)) (TCB (gAll fun bs => bs.all id) (TCons (TOfL (TLc (TItems (TV 0) strOf) (GName 2) TYes (TCall row (specR (F_is_sign Z)) 1 (TCons (TV 2) TNil)) [2])) TNil)))))
def U_is_sign_text (Z : Zs) (row : Addr) : FS := (fRet (fAndV (fCB oIsi (fCons (fVar 0) (fCons (fC (.ty .str)) fNil))) (fAndV (fOp oEq (fCB oLen (fCons (fVar 0) fNil)) (fVar 1)) (fCB (oAll fun bs => bs.all id) (fCons (fOfL (fLc (fItems (fVar 0) strOf) (hName 2) fYes (fCall (F_is_sign Z row) 1 (fCons (fVar 2) fNil)) [2])) fNil)))))
@[irreducible] def F_is_sign_text (Z : Zs) (row : Addr) : Fn := fDef 3 (U_is_sign_text Z row)
theorem Fe_is_sign_text (Z : Zs) : F_is_sign_text Z = fun row => fDef 3 (U_is_sign_text Z row) := by
  funext row
  unfold F_is_sign_text
  rfl
theorem ds_is_sign_text {Γ : Ga} {Z : Zs} (B : Fx Γ Z) (F_is_sign : DefOk Γ 2 "is_sign" 1 (specR (F_is_sign Z))) (E : XR) : DSs (gaOf Γ 2 n_is_sign_text s_is_sign_text E) (defBody s_is_sign_text) (T_is_sign_text Z E.row) :=
  (ds_one (ds_ret (de_and (de_isi (da_cons (de_var 0) (da_cons (de_ty .str (by rfl) B.b_str (by decide +kernel)) da_nil)) (by rfl) B.b_isinstance) (de_and (de_eq (de_len (de_var 0) (by rfl) B.b_len) (de_var 1)) (de_one (de_all (de_ofL (dl_lc [(Str.ofString "sign", 2)] sc_is_sign_text.nd (by kernel_rfl) (di_str (de_var 0)) (dg_name 2 sc_is_sign_text.nd) dts_nil (de_call F_is_sign.at (Nat.le_of_ble_eq_true rfl) (by rfl) (da_cons (de_var 2) da_nil)))) (by rfl) B.b_all))))))
theorem rs_is_sign_text (Z : Zs) (row : Addr) : RS (U_is_sign_text Z row) (T_is_sign_text Z row) :=
  (r_ret (r_andV (r_cb i_isi (r_cons r_var (r_cons r_c r_nil))) (r_andV (r_op i_eq (r_cb i_len (r_cons r_var r_nil)) r_var) (r_cb i_all (r_cons (r_ofL (r_lc (r_items r_var) rg_name r_yes (r_callS (rf_is_sign Z row) (r_cons r_var r_nil)))) r_nil)))))
theorem rf_is_sign_text (Z : Zs) (row : Addr) : RowF (specR (F_is_sign_text Z)) row (F_is_sign_text Z row) := rowF _ row
theorem ok_is_sign_text {Γ : Ga} {Z : Zs} (B : Fx Γ Z) (F_is_sign : DefOk Γ 2 "is_sign" 1 (specR (F_is_sign Z))) {f : Addr} {fd : FuncData} (F : Fun Γ.K "is_sign_text" "is_sign_text" s_is_sign_text f fd) (hm : Γ.mg "is_sign_text" = some (.ref f)) (hb : Binds Γ.K fd ["value", "length"] []) : DefOk Γ 3 "is_sign_text" 2 (specR (F_is_sign_text Z)) := by
  rw [Fe_is_sign_text]
  exact fdef_ok F sc_is_sign_text rfl (fun E => ds_is_sign_text B F_is_sign E) (rs_is_sign_text Z) hm hb
abbrev s_wrong_side : Stmt := top 20
abbrev n_wrong_side : List Str := ["width", "height"]
theorem sc_wrong_side : FnScope n_wrong_side ["width", "height"] (defScope s_wrong_side) := ⟨rfl, rfl, rfl, by decide +kernel, rfl, by decide +kernel, by decide +kernel⟩
def T_wrong_side (Z : Zs) (row : Addr) : TDS := (TSeq (TIf (TNot (TTest (TCall row (specR (F_is_number Z)) 3 (TCons (TV 0) (TCons (TC (.int 1)) (TCons (TC (.int (5))) TNil)))))) (TRet (TC (.str [119, 105, 100, 116, 104]))) (fun De ρ _ => De.nx ρ)) (TSeq (TIf (TOr (TNot (TTest (TCall row (specR (F_is_number Z)) 3 (TCons (TV 1) (TCons (TC (.int 1)) (TCons (TC (.int (5))) TNil)))))) (TTest (TOp gGt (TOp gMul0 (TV 0) (TV 1)) (TC (.int (12)))))) (TRet (TC (.str [104, 101, 105, 103, 104, 116]))) (fun De ρ _ => De.nx ρ)) (TRet (TC .non))))
def U_wrong_side (Z : Zs) (row : Addr) : FS := (fSeq (fIf (fNot (fTest (fCall (F_is_number Z row) 3 (fCons (fVar 0) (fCons (fC (.int 1)) (fCons (fC (.int (5))) fNil)))))) (fRet (fC (.str [119, 105, 100, 116, 104]))) fNext) (fSeq (fIf (fOr (fNot (fTest (fCall (F_is_number Z row) 3 (fCons (fVar 1) (fCons (fC (.int 1)) (fCons (fC (.int (5))) fNil)))))) (fTest (fOp oGt (fOp oMul (fVar 0) (fVar 1)) (fC (.int (12)))))) (fRet (fC (.str [104, 101, 105, 103, 104, 116]))) fNext) (fRet (fC .non))))
@[irreducible] def F_wrong_side (Z : Zs) (row : Addr) : Fn := fDef 2 (U_wrong_side Z row)
theorem Fe_wrong_side (Z : Zs) : F_wrong_side Z = fun row => fDef 2 (U_wrong_side Z row) := by
  funext row
  unfold F_wrong_side
  rfl
theorem ds_wrong_side {Γ : Ga} {Z : Zs} (B : Fx Γ Z) (F_is_number : DefOk Γ 1 "is_number" 3 (specR (F_is_number Z))) (E : XR) : DSs (gaOf Γ 1 n_wrong_side s_wrong_side E) (defBody s_wrong_side) (T_wrong_side Z E.row) :=
  (ds_cons (ds_if (dt_not (dt_val (de_call F_is_number.at (Nat.le_of_ble_eq_true rfl) (by rfl) (da_cons (de_var 0) (da_cons de_int (da_cons (de_gc B.g_MOST_SIDE) da_nil)))))) (ds_one (ds_ret (de_str [119, 105, 100, 116, 104]))) ds_nil) (ds_cons (ds_if (dt_w (dw_or (dt_not (dt_val (de_call F_is_number.at (Nat.le_of_ble_eq_true rfl) (by rfl) (da_cons (de_var 1) (da_cons de_int (da_cons (de_gc B.g_MOST_SIDE) da_nil)))))) (dw_or1 (dt_gt (de_mul0 (de_var 0) (de_var 1)) (de_gc B.g_MOST_CELLS))))) (ds_one (ds_ret (de_str [104, 101, 105, 103, 104, 116]))) ds_nil) (ds_one (ds_ret de_non))))
theorem rs_wrong_side (Z : Zs) (row : Addr) : RS (U_wrong_side Z row) (T_wrong_side Z row) :=
  (r_seq (r_if (r_not (r_test (r_callS (rf_is_number Z row) (r_cons r_var (r_cons r_c (r_cons r_c r_nil)))))) (r_ret r_c) r_next) (r_seq (r_if (r_or (r_not (r_test (r_callS (rf_is_number Z row) (r_cons r_var (r_cons r_c (r_cons r_c r_nil)))))) (r_test (r_op i_gt (r_op i_mul r_var r_var) r_c))) (r_ret r_c) r_next) (r_ret r_c)))
theorem rf_wrong_side (Z : Zs) (row : Addr) : RowF (specR (F_wrong_side Z)) row (F_wrong_side Z row) := rowF _ row
theorem ok_wrong_side {Γ : Ga} {Z : Zs} (B : Fx Γ Z) (F_is_number : DefOk Γ 1 "is_number" 3 (specR (F_is_number Z))) {f : Addr} {fd : FuncData} (F : Fun Γ.K "wrong_side" "wrong_side" s_wrong_side f fd) (hm : Γ.mg "wrong_side" = some (.ref f)) (hb : Binds Γ.K fd ["width", "height"] []) : DefOk Γ 2 "wrong_side" 2 (specR (F_wrong_side Z)) := by
  rw [Fe_wrong_side]
  exact fdef_ok F sc_wrong_side rfl (fun E => ds_wrong_side B F_is_number E) (rs_wrong_side Z) hm hb
abbrev s_is_cell : Stmt := top 19
abbrev n_is_cell : List Str := ["value", "cell_count"]
theorem sc_is_cell : FnScope n_is_cell ["value", "cell_count"] (defScope s_is_cell) := ⟨rfl, rfl, rfl, by decide +kernel, rfl, by decide +kernel, by decide +kernel⟩
def T_is_cell (Z : Zs) (row : Addr) : TDS := (TRet (TCall row (specR (F_is_number Z)) 3 (TCons (TV 0) (TCons (TC (.int 0)) (TCons (TOp DL.gSub (TV 1) (TC (.int 1))) TNil)))))
def U_is_cell (Z : Zs) (row : Addr) : FS := (fRet (fCall (F_is_number Z row) 3 (fCons (fVar 0) (fCons (fC (.int 0)) (fCons (fOp oSub (fVar 1) (fC (.int 1))) fNil)))))
@[irreducible] def F_is_cell (Z : Zs) (row : Addr) : Fn := fDef 2 (U_is_cell Z row)
theorem Fe_is_cell (Z : Zs) : F_is_cell Z = fun row => fDef 2 (U_is_cell Z row) := by
  funext row
  unfold F_is_cell
  rfl
theorem ds_is_cell {Γ : Ga} {Z : Zs} (B : Fx Γ Z) (F_is_number : DefOk Γ 1 "is_number" 3 (specR (F_is_number Z))) (E : XR) : DSs (gaOf Γ 1 n_is_cell s_is_cell E) (defBody s_is_cell) (T_is_cell Z E.row) :=
  (ds_one (ds_ret (de_call F_is_number.at (Nat.le_of_ble_eq_true rfl) (by rfl) (da_cons (de_var 0) (da_cons de_int (da_cons (de_sub (de_var 1) de_int) da_nil))))))
theorem rs_is_cell (Z : Zs) (row : Addr) : RS (U_is_cell Z row) (T_is_cell Z row) :=
  (r_ret (r_callS (rf_is_number Z row) (r_cons r_var (r_cons r_c (r_cons (r_op i_sub r_var r_c) r_nil)))))
theorem rf_is_cell (Z : Zs) (row : Addr) : RowF (specR (F_is_cell Z)) row (F_is_cell Z row) := rowF _ row
theorem ok_is_cell {Γ : Ga} {Z : Zs} (B : Fx Γ Z) (F_is_number : DefOk Γ 1 "is_number" 3 (specR (F_is_number Z))) {f : Addr} {fd : FuncData} (F : Fun Γ.K "is_cell" "is_cell" s_is_cell f fd) (hm : Γ.mg "is_cell" = some (.ref f)) (hb : Binds Γ.K fd ["value", "cell_count"] []) : DefOk Γ 2 "is_cell" 2 (specR (F_is_cell Z)) := by
  rw [Fe_is_cell]
  exact fdef_ok F sc_is_cell rfl (fun E => ds_is_cell B F_is_number E) (rs_is_cell Z) hm hb
abbrev s_are_strides : Stmt := top 21
abbrev n_are_strides : List Str := ["value", "count", "stride"]
theorem sc_are_strides : FnScope n_are_strides ["value", "count"] (defScope s_are_strides) := ⟨rfl, rfl, rfl, by decide +kernel, rfl, by decide +kernel, by decide +kernel⟩
def T_are_strides (Z : Zs) (row : Addr) : TDS := (TSeq (TIf (TOr (TNot (TTest (TCB gIsi (TCons (TV 0) (TCons (TC (.ty .tuple)) TNil))))) (TTest (TOp gNe (TCB gLen (TCons (TV 0) TNil)) (TV 1)))) (TRet (TC (.bl false))) (fun De ρ _ => De.nx ρ)) (TRet (TCB (gAll fun bs => bs.all id) (TCons (TOfL (TLc (TItems (TV 0) tupOf) (GName 2) TYes (TCall row (specR (F_is_number Z)) 3 (TCons (TV 2) (TCons (TNeg (TC (.int (9)))) (TCons (TC (.int (9))) TNil)))) [2])) TNil))))
def U_are_strides (Z : Zs) (row : Addr) : FS := (fSeq (fIf (fOr (fNot (fTest (fCB oIsi (fCons (fVar 0) (fCons (fC (.ty .tuple)) fNil))))) (fTest (fOp oNe (fCB oLen (fCons (fVar 0) fNil)) (fVar 1)))) (fRet (fC (.bl false))) fNext) (fRet (fCB (oAll fun bs => bs.all id) (fCons (fOfL (fLc (fItems (fVar 0) tupOf) (hName 2) fYes (fCall (F_is_number Z row) 3 (fCons (fVar 2) (fCons (fNeg (fC (.int (9)))) (fCons (fC (.int (9))) fNil)))) [2])) fNil))))
@[irreducible] def F_are_strides (Z : Zs) (row : Addr) : Fn := fDef 3 (U_are_strides Z row)
theorem Fe_are_strides (Z : Zs) : F_are_strides Z = fun row => fDef 3 (U_are_strides Z row) := by
  funext row
  unfold F_are_strides
  rfl
theorem ds_are_strides {Γ : Ga} {Z : Zs} (B : Fx Γ Z) (F_is_number : DefOk Γ 1 "is_number" 3 (specR (F_is_number Z))) (E : XR) : DSs (gaOf Γ 1 n_are_strides s_are_strides E) (defBody s_are_strides) (T_are_strides Z E.row) :=
  (ds_cons (ds_if (dt_w (dw_or (dt_not (dt_val (de_isi (da_cons (de_var 0) (da_cons (de_ty .tuple (by rfl) B.b_tuple (by decide +kernel)) da_nil)) (by rfl) B.b_isinstance))) (dw_or1 (dt_ne (de_len (de_var 0) (by rfl) B.b_len) (de_var 1))))) (ds_one (ds_ret de_bl)) ds_nil) (ds_one (ds_ret (de_all (de_ofL (dl_lc [(Str.ofString "stride", 2)] sc_are_strides.nd (by kernel_rfl) (di_tup (de_var 0)) (dg_name 2 sc_are_strides.nd) dts_nil (de_call F_is_number.at (Nat.le_of_ble_eq_true rfl) (by rfl) (da_cons (de_var 2) (da_cons (de_neg (de_gc B.g_MOST_STRIDE)) (da_cons (de_gc B.g_MOST_STRIDE) da_nil)))))) (by rfl) B.b_all))))
theorem rs_are_strides (Z : Zs) (row : Addr) : RS (U_are_strides Z row) (T_are_strides Z row) :=
  (r_seq (r_if (r_or (r_not (r_test (r_cb i_isi (r_cons r_var (r_cons r_c r_nil))))) (r_test (r_op i_ne (r_cb i_len (r_cons r_var r_nil)) r_var))) (r_ret r_c) r_next) (r_ret (r_cb i_all (r_cons (r_ofL (r_lc (r_items r_var) rg_name r_yes (r_callS (rf_is_number Z row) (r_cons r_var (r_cons (r_neg r_c) (r_cons r_c r_nil)))))) r_nil))))
theorem rf_are_strides (Z : Zs) (row : Addr) : RowF (specR (F_are_strides Z)) row (F_are_strides Z row) := rowF _ row
theorem ok_are_strides {Γ : Ga} {Z : Zs} (B : Fx Γ Z) (F_is_number : DefOk Γ 1 "is_number" 3 (specR (F_is_number Z))) {f : Addr} {fd : FuncData} (F : Fun Γ.K "are_strides" "are_strides" s_are_strides f fd) (hm : Γ.mg "are_strides" = some (.ref f)) (hb : Binds Γ.K fd ["value", "count"] []) : DefOk Γ 2 "are_strides" 2 (specR (F_are_strides Z)) := by
  rw [Fe_are_strides]
  exact fdef_ok F sc_are_strides rfl (fun E => ds_are_strides B F_is_number E) (rs_are_strides Z) hm hb
abbrev s_is_deed : Stmt := top 23
abbrev n_is_deed : List Str := ["width", "height", "deed", "word", "places"]
theorem sc_is_deed : FnScope n_is_deed ["width", "height", "deed"] (defScope s_is_deed) := ⟨rfl, rfl, rfl, by decide +kernel, rfl, by decide +kernel, by decide +kernel⟩
def T_is_deed (Z : Zs) (row : Addr) : TDS := (TSeq (TIf (TNot (TTest (TCB gIsi (TCons (TV 2) (TCons (TC (.ty .tuple)) TNil))))) (TRet (TC (.bl false))) (fun De ρ _ => De.nx ρ)) (TSeq (TIf (TAnd (TTest (TOp gEq (TCB gLen (TCons (TV 2) TNil)) (TC (.int 3)))) (TTest (TOp gEq (TOp gIx (TV 2) (TC (.int 0))) (TC (.str [100, 114, 111, 112]))))) (fun _ _ _ => False) (fun De ρ _ => De.nx ρ)) (TSeq (TIf (TTest (TOp gNe (TCB gLen (TCons (TV 2) TNil)) (TC (.int 2)))) (TRet (TC (.bl false))) (fun De ρ _ => De.nx ρ)) (TSeq (TAsgG (TV 2) (GTup 2 (GsCons (GName 3) (GsCons (GName 4) GsNil)))) (TSeq (TIf (TTest (TOp gEq (TV 3) (TC (.str [114, 97, 107, 101])))) (TRet (TCall row (specR (F_are_strides Z)) 2 (TCons (TV 4) (TCons (TV 1) TNil)))) (fun De ρ _ => De.nx ρ)) (TSeq (TIf (TTest (TOp gEq (TV 3) (TC (.str [99, 111, 109, 98])))) (fun _ _ _ => False) (fun De ρ _ => De.nx ρ)) (fun _ _ _ => False)))))))
def U_is_deed (Z : Zs) (row : Addr) : FS := (fSeq (fIf (fNot (fTest (fCB oIsi (fCons (fVar 2) (fCons (fC (.ty .tuple)) fNil))))) (fRet (fC (.bl false))) fNext) (fSeq (fIf (fAnd (fTest (fOp oEq (fCB oLen (fCons (fVar 2) fNil)) (fC (.int 3)))) (fTest (fOp oEq (fOp oIx (fVar 2) (fC (.int 0))) (fC (.str [100, 114, 111, 112]))))) fStop fNext) (fSeq (fIf (fTest (fOp oNe (fCB oLen (fCons (fVar 2) fNil)) (fC (.int 2)))) (fRet (fC (.bl false))) fNext) (fSeq (fAsg (fVar 2) (hTup (hCons (hName 3) (hCons (hName 4) hNil)))) (fSeq (fIf (fTest (fOp oEq (fVar 3) (fC (.str [114, 97, 107, 101])))) (fRet (fCall (F_are_strides Z row) 2 (fCons (fVar 4) (fCons (fVar 1) fNil)))) fNext) (fSeq (fIf (fTest (fOp oEq (fVar 3) (fC (.str [99, 111, 109, 98])))) fStop fNext) fStop))))))
@[irreducible] def F_is_deed (Z : Zs) (row : Addr) : Fn := fDef 5 (U_is_deed Z row)
theorem Fe_is_deed (Z : Zs) : F_is_deed Z = fun row => fDef 5 (U_is_deed Z row) := by
  funext row
  unfold F_is_deed
  rfl
theorem ds_is_deed {Γ : Ga} {Z : Zs} (B : Fx Γ Z) (F_are_strides : DefOk Γ 2 "are_strides" 2 (specR (F_are_strides Z))) (E : XR) : DSs (gaOf Γ 2 n_is_deed s_is_deed E) (defBody s_is_deed) (T_is_deed Z E.row) :=
  (ds_cons (ds_if (dt_not (dt_val (de_isi (da_cons (de_var 2) (da_cons (de_ty .tuple (by rfl) B.b_tuple (by decide +kernel)) da_nil)) (by rfl) B.b_isinstance))) (ds_one (ds_ret de_bl)) ds_nil) (ds_cons (ds_if (dt_w (dw_and (dt_eq (de_len (de_var 2) (by rfl) B.b_len) de_int) (dw_and1 (dt_eq (de_ix (de_var 2) de_int) (de_str [100, 114, 111, 112]))))) (ds_one ds_never) ds_nil) (ds_cons (ds_if (dt_ne (de_len (de_var 2) (by rfl) B.b_len) de_int) (ds_one (ds_ret de_bl)) ds_nil) (ds_cons (ds_asg (de_var 2) (dg_tup (dgs_cons (dg_name 3 sc_is_deed.nd) (dgs_cons (dg_name 4 sc_is_deed.nd) dgs_nil)))) (ds_cons (ds_if (dt_eq (de_var 3) (de_str [114, 97, 107, 101])) (ds_one (ds_ret (de_call F_are_strides.at (Nat.le_of_ble_eq_true rfl) (by rfl) (da_cons (de_var 4) (da_cons (de_var 1) da_nil))))) ds_nil) (ds_cons (ds_if (dt_eq (de_var 3) (de_str [99, 111, 109, 98])) (ds_one ds_never) ds_nil) (ds_one ds_never)))))))
theorem rs_is_deed (Z : Zs) (row : Addr) : RS (U_is_deed Z row) (T_is_deed Z row) :=
  (r_seq (r_if (r_not (r_test (r_cb i_isi (r_cons r_var (r_cons r_c r_nil))))) (r_ret r_c) r_next) (r_seq (r_if (r_and (r_test (r_op i_eq (r_cb i_len (r_cons r_var r_nil)) r_c)) (r_test (r_op i_eq (r_op i_ix r_var r_c) r_c))) r_stop r_next) (r_seq (r_if (r_test (r_op i_ne (r_cb i_len (r_cons r_var r_nil)) r_c)) (r_ret r_c) r_next) (r_seq (r_asg r_var (rg_tup (rgs_cons rg_name (rgs_cons rg_name rgs_nil)) (lenG_cons (lenG_cons lenG_nil)))) (r_seq (r_if (r_test (r_op i_eq r_var r_c)) (r_ret (r_callS (rf_are_strides Z row) (r_cons r_var (r_cons r_var r_nil)))) r_next) (r_seq (r_if (r_test (r_op i_eq r_var r_c)) r_stop r_next) r_stop))))))
theorem rf_is_deed (Z : Zs) (row : Addr) : RowF (specR (F_is_deed Z)) row (F_is_deed Z row) := rowF _ row
theorem ok_is_deed {Γ : Ga} {Z : Zs} (B : Fx Γ Z) (F_are_strides : DefOk Γ 2 "are_strides" 2 (specR (F_are_strides Z))) {f : Addr} {fd : FuncData} (F : Fun Γ.K "is_deed" "is_deed" s_is_deed f fd) (hm : Γ.mg "is_deed" = some (.ref f)) (hb : Binds Γ.K fd ["width", "height", "deed"] []) : DefOk Γ 3 "is_deed" 3 (specR (F_is_deed Z)) := by
  rw [Fe_is_deed]
  exact fdef_ok F sc_is_deed rfl (fun E => ds_is_deed B F_are_strides E) (rs_is_deed Z) hm hb
abbrev s_check_recipe : Stmt := top 24
abbrev n_check_recipe : List Str := ["width", "height", "recipe", "index", "deed"]
theorem sc_check_recipe : FnScope n_check_recipe ["width", "height", "recipe"] (defScope s_check_recipe) := ⟨rfl, rfl, rfl, by decide +kernel, rfl, by decide +kernel, by decide +kernel⟩
def T_check_recipe (Z : Zs) (row : Addr) : TDS := (TFor (TSrc (TCons (TV 2) TNil) enumD) (GTup 2 (GsCons (GName 3) (GsCons (GName 4) GsNil))) (TIf (TOr (TTest (TOp gGe (TV 3) (TC (.int (12))))) (TNot (TTest (TCall row (specR (F_is_deed Z)) 3 (TCons (TV 0) (TCons (TV 1) (TCons (TV 4) TNil))))))) (fun _ _ _ => False) (fun De ρ _ => De.nx ρ)))
def U_check_recipe (Z : Zs) (row : Addr) : FS := (fFor (fSrc (fCons (fVar 2) fNil) enumD) (hTup (hCons (hName 3) (hCons (hName 4) hNil))) (fIf (fOr (fTest (fOp oGe (fVar 3) (fC (.int (12))))) (fNot (fTest (fCall (F_is_deed Z row) 3 (fCons (fVar 0) (fCons (fVar 1) (fCons (fVar 4) fNil))))))) fStop fNext))
@[irreducible] def F_check_recipe (Z : Zs) (row : Addr) : Fn := fDef 5 (U_check_recipe Z row)
theorem Fe_check_recipe (Z : Zs) : F_check_recipe Z = fun row => fDef 5 (U_check_recipe Z row) := by
  funext row
  unfold F_check_recipe
  rfl
theorem ds_check_recipe {Γ : Ga} {Z : Zs} (B : Fx Γ Z) (F_is_deed : DefOk Γ 3 "is_deed" 3 (specR (F_is_deed Z))) (E : XR) : DSs (gaOf Γ 3 n_check_recipe s_check_recipe E) (defBody s_check_recipe) (T_check_recipe Z E.row) :=
  (ds_one (ds_for (di_enum (da_cons (de_var 2) da_nil) (by rfl) B.b_enumerate) (dg_tup (dgs_cons (dg_name 3 sc_check_recipe.nd) (dgs_cons (dg_name 4 sc_check_recipe.nd) dgs_nil))) (ds_one (ds_if (dt_w (dw_or (dt_ge (de_var 3) (de_gc B.g_MOST_DEEDS)) (dw_or1 (dt_not (dt_val (de_call F_is_deed.at (Nat.le_of_ble_eq_true rfl) (by rfl) (da_cons (de_var 0) (da_cons (de_var 1) (da_cons (de_var 4) da_nil))))))))) (ds_one ds_never) ds_nil))))
theorem rs_check_recipe (Z : Zs) (row : Addr) : RS (U_check_recipe Z row) (T_check_recipe Z row) :=
  (r_for (r_src (r_cons r_var r_nil)) (rg_tup (rgs_cons rg_name (rgs_cons rg_name rgs_nil)) (lenG_cons (lenG_cons lenG_nil))) (r_if (r_or (r_test (r_op i_ge r_var r_c)) (r_not (r_test (r_callS (rf_is_deed Z row) (r_cons r_var (r_cons r_var (r_cons r_var r_nil))))))) r_stop r_next))
theorem rf_check_recipe (Z : Zs) (row : Addr) : RowF (specR (F_check_recipe Z)) row (F_check_recipe Z row) := rowF _ row
theorem ok_check_recipe {Γ : Ga} {Z : Zs} (B : Fx Γ Z) (F_is_deed : DefOk Γ 3 "is_deed" 3 (specR (F_is_deed Z))) {f : Addr} {fd : FuncData} (F : Fun Γ.K "check_recipe" "check_recipe" s_check_recipe f fd) (hm : Γ.mg "check_recipe" = some (.ref f)) (hb : Binds Γ.K fd ["width", "height", "recipe"] []) : DefOk Γ 4 "check_recipe" 3 (specR (F_check_recipe Z)) := by
  rw [Fe_check_recipe]
  exact fdef_ok F sc_check_recipe rfl (fun E => ds_check_recipe B F_is_deed E) (rs_check_recipe Z) hm hb
abbrev s_check_cell : Stmt := top 25
abbrev n_check_cell : List Str := ["cell", "cell_count"]
theorem sc_check_cell : FnScope n_check_cell ["cell", "cell_count"] (defScope s_check_cell) := ⟨rfl, rfl, rfl, by decide +kernel, rfl, by decide +kernel, by decide +kernel⟩
def T_check_cell (Z : Zs) (row : Addr) : TDS := (TIf (TNot (TTest (TCall row (specR (F_is_cell Z)) 2 (TCons (TV 0) (TCons (TV 1) TNil))))) (fun _ _ _ => False) (fun De ρ _ => De.nx ρ))
def U_check_cell (Z : Zs) (row : Addr) : FS := (fIf (fNot (fTest (fCall (F_is_cell Z row) 2 (fCons (fVar 0) (fCons (fVar 1) fNil))))) fStop fNext)
@[irreducible] def F_check_cell (Z : Zs) (row : Addr) : Fn := fDef 2 (U_check_cell Z row)
theorem Fe_check_cell (Z : Zs) : F_check_cell Z = fun row => fDef 2 (U_check_cell Z row) := by
  funext row
  unfold F_check_cell
  rfl
theorem ds_check_cell {Γ : Ga} {Z : Zs} (B : Fx Γ Z) (F_is_cell : DefOk Γ 2 "is_cell" 2 (specR (F_is_cell Z))) (E : XR) : DSs (gaOf Γ 2 n_check_cell s_check_cell E) (defBody s_check_cell) (T_check_cell Z E.row) :=
  (ds_one (ds_if (dt_not (dt_val (de_call F_is_cell.at (Nat.le_of_ble_eq_true rfl) (by rfl) (da_cons (de_var 0) (da_cons (de_var 1) da_nil))))) (ds_one ds_never) ds_nil))
theorem rs_check_cell (Z : Zs) (row : Addr) : RS (U_check_cell Z row) (T_check_cell Z row) :=
  (r_if (r_not (r_test (r_callS (rf_is_cell Z row) (r_cons r_var (r_cons r_var r_nil))))) r_stop r_next)
theorem rf_check_cell (Z : Zs) (row : Addr) : RowF (specR (F_check_cell Z)) row (F_check_cell Z row) := rowF _ row
theorem ok_check_cell {Γ : Ga} {Z : Zs} (B : Fx Γ Z) (F_is_cell : DefOk Γ 2 "is_cell" 2 (specR (F_is_cell Z))) {f : Addr} {fd : FuncData} (F : Fun Γ.K "check_cell" "check_cell" s_check_cell f fd) (hm : Γ.mg "check_cell" = some (.ref f)) (hb : Binds Γ.K fd ["cell", "cell_count"] []) : DefOk Γ 3 "check_cell" 2 (specR (F_check_cell Z)) := by
  rw [Fe_check_cell]
  exact fdef_ok F sc_check_cell rfl (fun E => ds_check_cell B F_is_cell E) (rs_check_cell Z) hm hb
abbrev s_check_sign : Stmt := top 26
abbrev n_check_sign : List Str := ["sign"]
theorem sc_check_sign : FnScope n_check_sign ["sign"] (defScope s_check_sign) := ⟨rfl, rfl, rfl, by decide +kernel, rfl, by decide +kernel, by decide +kernel⟩
def T_check_sign (Z : Zs) (row : Addr) : TDS := (TIf (TNot (TTest (TCall row (specR (F_is_sign Z)) 1 (TCons (TV 0) TNil)))) (fun _ _ _ => False) (fun De ρ _ => De.nx ρ))
def U_check_sign (Z : Zs) (row : Addr) : FS := (fIf (fNot (fTest (fCall (F_is_sign Z row) 1 (fCons (fVar 0) fNil)))) fStop fNext)
@[irreducible] def F_check_sign (Z : Zs) (row : Addr) : Fn := fDef 1 (U_check_sign Z row)
theorem Fe_check_sign (Z : Zs) : F_check_sign Z = fun row => fDef 1 (U_check_sign Z row) := by
  funext row
  unfold F_check_sign
  rfl
theorem ds_check_sign {Γ : Ga} {Z : Zs} (B : Fx Γ Z) (F_is_sign : DefOk Γ 2 "is_sign" 1 (specR (F_is_sign Z))) (E : XR) : DSs (gaOf Γ 2 n_check_sign s_check_sign E) (defBody s_check_sign) (T_check_sign Z E.row) :=
  (ds_one (ds_if (dt_not (dt_val (de_call F_is_sign.at (Nat.le_of_ble_eq_true rfl) (by rfl) (da_cons (de_var 0) da_nil)))) (ds_one ds_never) ds_nil))
theorem rs_check_sign (Z : Zs) (row : Addr) : RS (U_check_sign Z row) (T_check_sign Z row) :=
  (r_if (r_not (r_test (r_callS (rf_is_sign Z row) (r_cons r_var r_nil)))) r_stop r_next)
theorem rf_check_sign (Z : Zs) (row : Addr) : RowF (specR (F_check_sign Z)) row (F_check_sign Z row) := rowF _ row
theorem ok_check_sign {Γ : Ga} {Z : Zs} (B : Fx Γ Z) (F_is_sign : DefOk Γ 2 "is_sign" 1 (specR (F_is_sign Z))) {f : Addr} {fd : FuncData} (F : Fun Γ.K "check_sign" "check_sign" s_check_sign f fd) (hm : Γ.mg "check_sign" = some (.ref f)) (hb : Binds Γ.K fd ["sign"] []) : DefOk Γ 3 "check_sign" 1 (specR (F_check_sign Z)) := by
  rw [Fe_check_sign]
  exact fdef_ok F sc_check_sign rfl (fun E => ds_check_sign B F_is_sign E) (rs_check_sign Z) hm hb
abbrev s_check_number : Stmt := top 27
abbrev n_check_number : List Str := ["number", "most"]
theorem sc_check_number : FnScope n_check_number ["number", "most"] (defScope s_check_number) := ⟨rfl, rfl, rfl, by decide +kernel, rfl, by decide +kernel, by decide +kernel⟩
def T_check_number (Z : Zs) (row : Addr) : TDS := (TIf (TNot (TTest (TCall row (specR (F_is_number Z)) 3 (TCons (TV 0) (TCons (TC (.int 0)) (TCons (TV 1) TNil)))))) (fun _ _ _ => False) (fun De ρ _ => De.nx ρ))
def U_check_number (Z : Zs) (row : Addr) : FS := (fIf (fNot (fTest (fCall (F_is_number Z row) 3 (fCons (fVar 0) (fCons (fC (.int 0)) (fCons (fVar 1) fNil)))))) fStop fNext)
@[irreducible] def F_check_number (Z : Zs) (row : Addr) : Fn := fDef 2 (U_check_number Z row)
theorem Fe_check_number (Z : Zs) : F_check_number Z = fun row => fDef 2 (U_check_number Z row) := by
  funext row
  unfold F_check_number
  rfl
theorem ds_check_number {Γ : Ga} {Z : Zs} (B : Fx Γ Z) (F_is_number : DefOk Γ 1 "is_number" 3 (specR (F_is_number Z))) (E : XR) : DSs (gaOf Γ 1 n_check_number s_check_number E) (defBody s_check_number) (T_check_number Z E.row) :=
  (ds_one (ds_if (dt_not (dt_val (de_call F_is_number.at (Nat.le_of_ble_eq_true rfl) (by rfl) (da_cons (de_var 0) (da_cons de_int (da_cons (de_var 1) da_nil)))))) (ds_one ds_never) ds_nil))
theorem rs_check_number (Z : Zs) (row : Addr) : RS (U_check_number Z row) (T_check_number Z row) :=
  (r_if (r_not (r_test (r_callS (rf_is_number Z row) (r_cons r_var (r_cons r_c (r_cons r_var r_nil)))))) r_stop r_next)
theorem rf_check_number (Z : Zs) (row : Addr) : RowF (specR (F_check_number Z)) row (F_check_number Z row) := rowF _ row
theorem ok_check_number {Γ : Ga} {Z : Zs} (B : Fx Γ Z) (F_is_number : DefOk Γ 1 "is_number" 3 (specR (F_is_number Z))) {f : Addr} {fd : FuncData} (F : Fun Γ.K "check_number" "check_number" s_check_number f fd) (hm : Γ.mg "check_number" = some (.ref f)) (hb : Binds Γ.K fd ["number", "most"] []) : DefOk Γ 2 "check_number" 2 (specR (F_check_number Z)) := by
  rw [Fe_check_number]
  exact fdef_ok F sc_check_number rfl (fun E => ds_check_number B F_is_number E) (rs_check_number Z) hm hb
abbrev s_raked_from : Stmt := top 30
abbrev n_raked_from : List Str := ["width", "height", "strides", "row", "column"]
theorem sc_raked_from : FnScope n_raked_from ["width", "height", "strides"] (defScope s_raked_from) := ⟨rfl, rfl, rfl, by decide +kernel, rfl, by decide +kernel, by decide +kernel⟩
def T_raked_from (Z : Zs) (row : Addr) : TDS := (TRet (TOfL (TLc2 (TRng1 (TCons (TV 1) TNil)) (GName 3) TYes (TRng1 (TCons (TV 0) TNil)) (GName 4) TYes (TOp gAdd (TOp gMul0 (TV 3) (TV 0)) (TOp gMod (TOp DL.gSub (TV 4) (TOp gIx (TV 2) (TV 3))) (TV 0))) [3, 4] [4])))
def U_raked_from (Z : Zs) (row : Addr) : FS := (fRet (fOfL (fLc2 (fRng1 (fCons (fVar 1) fNil)) (hName 3) fYes (fRng1 (fCons (fVar 0) fNil)) (hName 4) fYes (fOp oAdd (fOp oMul (fVar 3) (fVar 0)) (fOp oMod (fOp oSub (fVar 4) (fOp oIx (fVar 2) (fVar 3))) (fVar 0))) [3, 4] [4])))
@[irreducible] def F_raked_from (Z : Zs) (row : Addr) : Fn := fDef 5 (U_raked_from Z row)
theorem Fe_raked_from (Z : Zs) : F_raked_from Z = fun row => fDef 5 (U_raked_from Z row) := by
  funext row
  unfold F_raked_from
  rfl
theorem ds_raked_from {Γ : Ga} {Z : Zs} (B : Fx Γ Z) (E : XR) : DSs (gaOf Γ 0 n_raked_from s_raked_from E) (defBody s_raked_from) (T_raked_from Z E.row) :=
  (ds_one (ds_ret (de_ofL (dl_lc2 [(Str.ofString "row", 3), (Str.ofString "column", 4)] [4] sc_raked_from.nd (by kernel_rfl) (by decide) (di_range1 (da_cons (de_var 1) da_nil) (by rfl) B.b_range) (dg_name 3 sc_raked_from.nd) dts_nil (di_range1 (da_cons (de_var 0) da_nil) (by rfl) B.b_range) (dg_name 4 sc_raked_from.nd) dts_nil (de_add (de_mul0 (de_var 3) (de_var 0)) (de_mod (de_sub (de_var 4) (de_ix (de_var 2) (de_var 3))) (de_var 0)))))))
theorem rs_raked_from (Z : Zs) (row : Addr) : RS (U_raked_from Z row) (T_raked_from Z row) :=
  (r_ret (r_ofL (r_lc2 (r_rng1 (r_cons r_var r_nil)) rg_name r_yes (r_rng1 (r_cons r_var r_nil)) rg_name r_yes (r_op i_add (r_op i_mul r_var r_var) (r_op i_mod (r_op i_sub r_var (r_op i_ix r_var r_var)) r_var)))))
theorem rf_raked_from (Z : Zs) (row : Addr) : RowF (specR (F_raked_from Z)) row (F_raked_from Z row) := rowF _ row
theorem ok_raked_from {Γ : Ga} {Z : Zs} (B : Fx Γ Z) {f : Addr} {fd : FuncData} (F : Fun Γ.K "raked_from" "raked_from" s_raked_from f fd) (hm : Γ.mg "raked_from" = some (.ref f)) (hb : Binds Γ.K fd ["width", "height", "strides"] []) : DefOk Γ 1 "raked_from" 3 (specR (F_raked_from Z)) := by
  rw [Fe_raked_from]
  exact fdef_ok F sc_raked_from rfl (fun E => ds_raked_from B E) (rs_raked_from Z) hm hb
abbrev s_moved_from : Stmt := top 32
abbrev n_moved_from : List Str := ["width", "height", "deed", "word", "cell"]
theorem sc_moved_from : FnScope n_moved_from ["width", "height", "deed"] (defScope s_moved_from) := ⟨rfl, rfl, rfl, by decide +kernel, rfl, by decide +kernel, by decide +kernel⟩
def T_moved_from (Z : Zs) (row : Addr) : TDS := (TSeq (TSet 3 (TOp gIx (TV 2) (TC (.int 0)))) (TSeq (TIf (TTest (TOp gEq (TV 3) (TC (.str [100, 114, 111, 112])))) (fun _ _ _ => False) (fun De ρ _ => De.nx ρ)) (TSeq (TIf (TTest (TOp gEq (TV 3) (TC (.str [114, 97, 107, 101])))) (TRet (TCall row (specR (F_raked_from Z)) 3 (TCons (TV 0) (TCons (TV 1) (TCons (TOp gIx (TV 2) (TC (.int 1))) TNil))))) (fun De ρ _ => De.nx ρ)) (TSeq (TIf (TTest (TOp gEq (TV 3) (TC (.str [99, 111, 109, 98])))) (fun _ _ _ => False) (fun De ρ _ => De.nx ρ)) (fun _ _ _ => False)))))
def U_moved_from (Z : Zs) (row : Addr) : FS := (fSeq (fSet 3 (fOp oIx (fVar 2) (fC (.int 0)))) (fSeq (fIf (fTest (fOp oEq (fVar 3) (fC (.str [100, 114, 111, 112])))) fStop fNext) (fSeq (fIf (fTest (fOp oEq (fVar 3) (fC (.str [114, 97, 107, 101])))) (fRet (fCall (F_raked_from Z row) 3 (fCons (fVar 0) (fCons (fVar 1) (fCons (fOp oIx (fVar 2) (fC (.int 1))) fNil))))) fNext) (fSeq (fIf (fTest (fOp oEq (fVar 3) (fC (.str [99, 111, 109, 98])))) fStop fNext) fStop))))
@[irreducible] def F_moved_from (Z : Zs) (row : Addr) : Fn := fDef 5 (U_moved_from Z row)
theorem Fe_moved_from (Z : Zs) : F_moved_from Z = fun row => fDef 5 (U_moved_from Z row) := by
  funext row
  unfold F_moved_from
  rfl
theorem ds_moved_from {Γ : Ga} {Z : Zs} (B : Fx Γ Z) (F_raked_from : DefOk Γ 1 "raked_from" 3 (specR (F_raked_from Z))) (E : XR) : DSs (gaOf Γ 1 n_moved_from s_moved_from E) (defBody s_moved_from) (T_moved_from Z E.row) :=
  (ds_cons (ds_set 3 (de_ix (de_var 2) de_int) sc_moved_from.nd) (ds_cons (ds_if (dt_eq (de_var 3) (de_str [100, 114, 111, 112])) (ds_one ds_never) ds_nil) (ds_cons (ds_if (dt_eq (de_var 3) (de_str [114, 97, 107, 101])) (ds_one (ds_ret (de_call F_raked_from.at (Nat.le_of_ble_eq_true rfl) (by rfl) (da_cons (de_var 0) (da_cons (de_var 1) (da_cons (de_ix (de_var 2) de_int) da_nil)))))) ds_nil) (ds_cons (ds_if (dt_eq (de_var 3) (de_str [99, 111, 109, 98])) (ds_one ds_never) ds_nil) (ds_one ds_never)))))
theorem rs_moved_from (Z : Zs) (row : Addr) : RS (U_moved_from Z row) (T_moved_from Z row) :=
  (r_seq (r_set (r_op i_ix r_var r_c)) (r_seq (r_if (r_test (r_op i_eq r_var r_c)) r_stop r_next) (r_seq (r_if (r_test (r_op i_eq r_var r_c)) (r_ret (r_callS (rf_raked_from Z row) (r_cons r_var (r_cons r_var (r_cons (r_op i_ix r_var r_c) r_nil))))) r_next) (r_seq (r_if (r_test (r_op i_eq r_var r_c)) r_stop r_next) r_stop))))
theorem rf_moved_from (Z : Zs) (row : Addr) : RowF (specR (F_moved_from Z)) row (F_moved_from Z row) := rowF _ row
theorem ok_moved_from {Γ : Ga} {Z : Zs} (B : Fx Γ Z) (F_raked_from : DefOk Γ 1 "raked_from" 3 (specR (F_raked_from Z))) {f : Addr} {fd : FuncData} (F : Fun Γ.K "moved_from" "moved_from" s_moved_from f fd) (hm : Γ.mg "moved_from" = some (.ref f)) (hb : Binds Γ.K fd ["width", "height", "deed"] []) : DefOk Γ 2 "moved_from" 3 (specR (F_moved_from Z)) := by
  rw [Fe_moved_from]
  exact fdef_ok F sc_moved_from rfl (fun E => ds_moved_from B F_raked_from E) (rs_moved_from Z) hm hb
abbrev s_things_after : Stmt := top 33
abbrev n_things_after : List Str := ["width", "height", "things", "deed", "new", "cell"]
theorem sc_things_after : FnScope n_things_after ["width", "height", "things", "deed", "new"] (defScope s_things_after) := ⟨rfl, rfl, rfl, by decide +kernel, rfl, by decide +kernel, by decide +kernel⟩
def T_things_after (Z : Zs) (row : Addr) : TDS := (TRet (TOfL (TLc (TItems (TCall row (specR (F_moved_from Z)) 3 (TCons (TV 0) (TCons (TV 1) (TCons (TV 3) TNil)))) lstOf) (GName 5) TYes (TIfE (TTest (TOp gIsN (TV 5) (TC .non))) (TV 4) (TOp gIx (TV 2) (TV 5))) [5])))
def U_things_after (Z : Zs) (row : Addr) : FS := (fRet (fOfL (fLc (fItems (fCall (F_moved_from Z row) 3 (fCons (fVar 0) (fCons (fVar 1) (fCons (fVar 3) fNil)))) lstOf) (hName 5) fYes (fIfE (fTest (fOp oIsN (fVar 5) (fC .non))) (fVar 4) (fOp oIx (fVar 2) (fVar 5))) [5])))
@[irreducible] def F_things_after (Z : Zs) (row : Addr) : Fn := fDef 6 (U_things_after Z row)
theorem Fe_things_after (Z : Zs) : F_things_after Z = fun row => fDef 6 (U_things_after Z row) := by
  funext row
  unfold F_things_after
  rfl
theorem ds_things_after {Γ : Ga} {Z : Zs} (B : Fx Γ Z) (F_moved_from : DefOk Γ 2 "moved_from" 3 (specR (F_moved_from Z))) (E : XR) : DSs (gaOf Γ 2 n_things_after s_things_after E) (defBody s_things_after) (T_things_after Z E.row) :=
  (ds_one (ds_ret (de_ofL (dl_lc [(Str.ofString "cell", 5)] sc_things_after.nd (by kernel_rfl) (di_list (de_call F_moved_from.at (Nat.le_of_ble_eq_true rfl) (by rfl) (da_cons (de_var 0) (da_cons (de_var 1) (da_cons (de_var 3) da_nil))))) (dg_name 5 sc_things_after.nd) dts_nil (de_if (dt_isN (de_var 5) de_non) (de_var 4) (de_ix (de_var 2) (de_var 5)))))))
theorem rs_things_after (Z : Zs) (row : Addr) : RS (U_things_after Z row) (T_things_after Z row) :=
  (r_ret (r_ofL (r_lc (r_items (r_callS (rf_moved_from Z row) (r_cons r_var (r_cons r_var (r_cons r_var r_nil))))) rg_name r_yes (r_ifE (r_test (r_op i_isN r_var r_c)) r_var (r_op i_ix r_var r_var)))))
theorem rf_things_after (Z : Zs) (row : Addr) : RowF (specR (F_things_after Z)) row (F_things_after Z row) := rowF _ row
theorem ok_things_after {Γ : Ga} {Z : Zs} (B : Fx Γ Z) (F_moved_from : DefOk Γ 2 "moved_from" 3 (specR (F_moved_from Z))) {f : Addr} {fd : FuncData} (F : Fun Γ.K "things_after" "things_after" s_things_after f fd) (hm : Γ.mg "things_after" = some (.ref f)) (hb : Binds Γ.K fd ["width", "height", "things", "deed", "new"] []) : DefOk Γ 3 "things_after" 5 (specR (F_things_after Z)) := by
  rw [Fe_things_after]
  exact fdef_ok F sc_things_after rfl (fun E => ds_things_after B F_moved_from E) (rs_things_after Z) hm hb
abbrev s_new_sign : Stmt := top 34
abbrev n_new_sign : List Str := ["deed"]
theorem sc_new_sign : FnScope n_new_sign ["deed"] (defScope s_new_sign) := ⟨rfl, rfl, rfl, by decide +kernel, rfl, by decide +kernel, by decide +kernel⟩
def T_new_sign (Z : Zs) (row : Addr) : TDS := (TRet (TIfE (TTest (TOp gEq (TOp gIx (TV 0) (TC (.int 0))) (TC (.str [100, 114, 111, 112])))) (TOp gIx (TV 0) (TC (.int 2))) (TC (.str [46]))))
def U_new_sign (Z : Zs) (row : Addr) : FS := (fRet (fIfE (fTest (fOp oEq (fOp oIx (fVar 0) (fC (.int 0))) (fC (.str [100, 114, 111, 112])))) (fOp oIx (fVar 0) (fC (.int 2))) (fC (.str [46]))))
@[irreducible] def F_new_sign (Z : Zs) (row : Addr) : Fn := fDef 1 (U_new_sign Z row)
theorem Fe_new_sign (Z : Zs) : F_new_sign Z = fun row => fDef 1 (U_new_sign Z row) := by
  funext row
  unfold F_new_sign
  rfl
theorem ds_new_sign {Γ : Ga} {Z : Zs} (B : Fx Γ Z) (E : XR) : DSs (gaOf Γ 0 n_new_sign s_new_sign E) (defBody s_new_sign) (T_new_sign Z E.row) :=
  (ds_one (ds_ret (de_if (dt_eq (de_ix (de_var 0) de_int) (de_str [100, 114, 111, 112])) (de_ix (de_var 0) de_int) (de_gc B.g_NOTHING))))
theorem rs_new_sign (Z : Zs) (row : Addr) : RS (U_new_sign Z row) (T_new_sign Z row) :=
  (r_ret (r_ifE (r_test (r_op i_eq (r_op i_ix r_var r_c) r_c)) (r_op i_ix r_var r_c) r_c))
theorem rf_new_sign (Z : Zs) (row : Addr) : RowF (specR (F_new_sign Z)) row (F_new_sign Z row) := rowF _ row
theorem ok_new_sign {Γ : Ga} {Z : Zs} (B : Fx Γ Z) {f : Addr} {fd : FuncData} (F : Fun Γ.K "new_sign" "new_sign" s_new_sign f fd) (hm : Γ.mg "new_sign" = some (.ref f)) (hb : Binds Γ.K fd ["deed"] []) : DefOk Γ 1 "new_sign" 1 (specR (F_new_sign Z)) := by
  rw [Fe_new_sign]
  exact fdef_ok F sc_new_sign rfl (fun E => ds_new_sign B E) (rs_new_sign Z) hm hb
abbrev s_new_signs : Stmt := top 35
abbrev n_new_signs : List Str := ["recipe", "deed"]
theorem sc_new_signs : FnScope n_new_signs ["recipe"] (defScope s_new_signs) := ⟨rfl, rfl, rfl, by decide +kernel, rfl, by decide +kernel, by decide +kernel⟩
def T_new_signs (Z : Zs) (row : Addr) : TDS := (TRet (TOfL (TLc (TItems (TV 0) tupOf) (GName 1) TYes (TCall row (specR (F_new_sign Z)) 1 (TCons (TV 1) TNil)) [1])))
def U_new_signs (Z : Zs) (row : Addr) : FS := (fRet (fOfL (fLc (fItems (fVar 0) tupOf) (hName 1) fYes (fCall (F_new_sign Z row) 1 (fCons (fVar 1) fNil)) [1])))
@[irreducible] def F_new_signs (Z : Zs) (row : Addr) : Fn := fDef 2 (U_new_signs Z row)
theorem Fe_new_signs (Z : Zs) : F_new_signs Z = fun row => fDef 2 (U_new_signs Z row) := by
  funext row
  unfold F_new_signs
  rfl
theorem ds_new_signs {Γ : Ga} {Z : Zs} (B : Fx Γ Z) (F_new_sign : DefOk Γ 1 "new_sign" 1 (specR (F_new_sign Z))) (E : XR) : DSs (gaOf Γ 1 n_new_signs s_new_signs E) (defBody s_new_signs) (T_new_signs Z E.row) :=
  (ds_one (ds_ret (de_ofL (dl_lc [(Str.ofString "deed", 1)] sc_new_signs.nd (by kernel_rfl) (di_tup (de_var 0)) (dg_name 1 sc_new_signs.nd) dts_nil (de_call F_new_sign.at (Nat.le_of_ble_eq_true rfl) (by rfl) (da_cons (de_var 1) da_nil))))))
theorem rs_new_signs (Z : Zs) (row : Addr) : RS (U_new_signs Z row) (T_new_signs Z row) :=
  (r_ret (r_ofL (r_lc (r_items r_var) rg_name r_yes (r_callS (rf_new_sign Z row) (r_cons r_var r_nil)))))
theorem rf_new_signs (Z : Zs) (row : Addr) : RowF (specR (F_new_signs Z)) row (F_new_signs Z row) := rowF _ row
theorem ok_new_signs {Γ : Ga} {Z : Zs} (B : Fx Γ Z) (F_new_sign : DefOk Γ 1 "new_sign" 1 (specR (F_new_sign Z))) {f : Addr} {fd : FuncData} (F : Fun Γ.K "new_signs" "new_signs" s_new_signs f fd) (hm : Γ.mg "new_signs" = some (.ref f)) (hb : Binds Γ.K fd ["recipe"] []) : DefOk Γ 2 "new_signs" 1 (specR (F_new_signs Z)) := by
  rw [Fe_new_signs]
  exact fdef_ok F sc_new_signs rfl (fun E => ds_new_signs B F_new_sign E) (rs_new_signs Z) hm hb
abbrev s_things_done : Stmt := top 36
abbrev n_things_done : List Str := ["width", "height", "things", "recipe", "news", "papers", "deed", "new", "cell"]
theorem sc_things_done : FnScope n_things_done ["width", "height", "things", "recipe", "news"] (defScope s_things_done) := ⟨rfl, rfl, rfl, by decide +kernel, rfl, by decide +kernel, by decide +kernel⟩
def T_things_done (Z : Zs) (row : Addr) : TDS := (TSeq (TSetL 5 (TLstL TNil)) (TSeq (TFor (TSrc (TCons (TV 3) (TCons (TV 4) TNil)) zipD) (GTup 2 (GsCons (GName 6) (GsCons (GName 7) GsNil))) (TSeq (TIf (TTest (TOp gEq (TOp gIx (TV 6) (TC (.int 0))) (TC (.str [112, 97, 112, 101, 114])))) (fun _ _ _ => False) (fun De ρ _ => De.nx ρ)) (TSet 2 (TCall row (specR (F_things_after Z)) 5 (TCons (TV 0) (TCons (TV 1) (TCons (TV 2) (TCons (TV 6) (TCons (TV 7) TNil))))))))) (TFrz [5] (TRet (TTup (TCons (TV 2) (TCons (TV 5) TNil)))))))
def U_things_done (Z : Zs) (row : Addr) : FS := (fSeq (fSetL 5 (fLstL fNil)) (fSeq (fFor (fSrc (fCons (fVar 3) (fCons (fVar 4) fNil)) zipD) (hTup (hCons (hName 6) (hCons (hName 7) hNil))) (fSeq (fIf (fTest (fOp oEq (fOp oIx (fVar 6) (fC (.int 0))) (fC (.str [112, 97, 112, 101, 114])))) fStop fNext) (fSet 2 (fCall (F_things_after Z row) 5 (fCons (fVar 0) (fCons (fVar 1) (fCons (fVar 2) (fCons (fVar 6) (fCons (fVar 7) fNil))))))))) (fFrz [5] (fRet (fTup (fCons (fVar 2) (fCons (fVar 5) fNil)))))))
@[irreducible] def F_things_done (Z : Zs) (row : Addr) : Fn := fDef 9 (U_things_done Z row)
theorem Fe_things_done (Z : Zs) : F_things_done Z = fun row => fDef 9 (U_things_done Z row) := by
  funext row
  unfold F_things_done
  rfl
theorem ds_things_done {Γ : Ga} {Z : Zs} (B : Fx Γ Z) (F_things_after : DefOk Γ 3 "things_after" 5 (specR (F_things_after Z))) (E : XR) : DSs (gaOf Γ 3 n_things_done s_things_done E) (defBody s_things_done) (T_things_done Z E.row) :=
  (ds_cons (ds_setL 5 (dl_lst da_nil) sc_things_done.nd) (ds_cons (ds_for (di_zip (da_cons (de_var 3) (da_cons (de_var 4) da_nil)) (by rfl) B.b_zip) (dg_tup (dgs_cons (dg_name 6 sc_things_done.nd) (dgs_cons (dg_name 7 sc_things_done.nd) dgs_nil))) (ds_cons (ds_if (dt_eq (de_ix (de_var 6) de_int) (de_str [112, 97, 112, 101, 114])) (ds_one ds_never) ds_nil) (ds_one (ds_set 2 (de_call F_things_after.at (Nat.le_of_ble_eq_true rfl) (by rfl) (da_cons (de_var 0) (da_cons (de_var 1) (da_cons (de_var 2) (da_cons (de_var 6) (da_cons (de_var 7) da_nil)))))) sc_things_done.nd)))) (ds_one (ds_frz [5] (ds_ret (de_tup (da_cons (de_var 2) (da_cons (de_var 5) da_nil))))))))
theorem rs_things_done (Z : Zs) (row : Addr) : RS (U_things_done Z row) (T_things_done Z row) :=
  (r_seq (r_setL (r_lstL r_nil)) (r_seq (r_for (r_src (r_cons r_var (r_cons r_var r_nil))) (rg_tup (rgs_cons rg_name (rgs_cons rg_name rgs_nil)) (lenG_cons (lenG_cons lenG_nil))) (r_seq (r_if (r_test (r_op i_eq (r_op i_ix r_var r_c) r_c)) r_stop r_next) (r_set (r_callS (rf_things_after Z row) (r_cons r_var (r_cons r_var (r_cons r_var (r_cons r_var (r_cons r_var r_nil))))))))) (r_frz (r_ret (r_tup (r_cons r_var (r_cons r_var r_nil)))))))
theorem rf_things_done (Z : Zs) (row : Addr) : RowF (specR (F_things_done Z)) row (F_things_done Z row) := rowF _ row
theorem ok_things_done {Γ : Ga} {Z : Zs} (B : Fx Γ Z) (F_things_after : DefOk Γ 3 "things_after" 5 (specR (F_things_after Z))) {f : Addr} {fd : FuncData} (F : Fun Γ.K "things_done" "things_done" s_things_done f fd) (hm : Γ.mg "things_done" = some (.ref f)) (hb : Binds Γ.K fd ["width", "height", "things", "recipe", "news"] []) : DefOk Γ 4 "things_done" 5 (specR (F_things_done Z)) := by
  rw [Fe_things_done]
  exact fdef_ok F sc_things_done rfl (fun E => ds_things_done B F_things_after E) (rs_things_done Z) hm hb
/-! ### drawing -/
def S__law_taken (Z : Zs) : DL.Spec where
  pre := fun row ds => ∃ m : Int, ds = [.ref row, .int m] ∧ 0 < m ∧ m < 1000000000000000
  post := fun row ds r => ∃ m k : Int, ds = [.ref row, .int m] ∧ r = .int k ∧ 0 ≤ k ∧ k < m
/-- the row holds these -/
structure Rw {K : PySem.W.Frag} (M : Mt K) (H0 : Hp) (a : Addr) (ns : List Int) (i s r : Int) (H : Hp) : Prop where
  inv : M.inv H
  ex : Ex M H0 H
  at_ : H M.row = some (.lst [.ref a, .int i, .int s, .int r])
  sq : SqF K M.sdm H a (ns.map V.int)
  len : ns.length ≤ 63
  nn : 0 ≤ i
theorem Rw.put {K : PySem.W.Frag} {M : Mt K} {H0 H : Hp} {a : Addr} {ns : List Int} {i s r i' s' r' : Int} (R : Rw M H0 a ns i s r H) (h : 0 ≤ i') : Rw M H0 a ns i' s' r' (upd H M.row (.lst [.ref a, .int i', .int s', .int r'])) where
  inv := M.rput H _ R.inv ⟨a, ns, i', s', r', rfl, R.sq, R.len, h⟩
  ex := fun c o n e => by
    rw [upd_ne (fun z => n (by rw [z]; exact M.rdom))]
    exact R.ex c o n e
  at_ := upd_same
  sq := R.sq.elim (fun ⟨o, e⟩ => .inl ⟨o, by rw [upd_ne (fun z => by rw [z, R.at_] at e; cases e)]; exact e⟩) fun h => h.elim (fun h => .inr (.inl h)) fun h => .inr (.inr ⟨h.1, by rw [upd_ne (fun z => M.nsr (by rw [← z]; exact h.1))]; exact h.2⟩)
  len := R.len
  nn := h
theorem Rw.of {K : PySem.W.Frag} {M : Mt K} {H : Hp} (h : M.inv H) : ∃ a ns i s r, Rw M H a ns i s r H := by
  obtain ⟨xs, e, a, ns, i, s, r, rfl, h2, h3, h4⟩ := M.rinv H h
  exact ⟨a, ns, i, s, r, h, Ex.refl, e, h2, h3, h4⟩
theorem at3 {x0 x1 x2 x3 : V} : atI [x0, x1, x2, x3] 3 = some x3 := rfl
theorem at2 {x0 x1 x2 x3 : V} : atI [x0, x1, x2, x3] 2 = some x2 := rfl
theorem at1 {x0 x1 x2 x3 : V} : atI [x0, x1, x2, x3] 1 = some x1 := rfl
theorem at0 {x0 x1 x2 x3 : V} : atI [x0, x1, x2, x3] 0 = some x0 := rfl
abbrev s__law_taken : Stmt := top 50
abbrev n__law_taken : List Str := ["_law_row", "_law_many", "_law_found", "_law_cell"]
theorem sc__law_taken : FnScope n__law_taken ["_law_row", "_law_many"] (defScope s__law_taken) := ⟨rfl, rfl, rfl, by decide +kernel, rfl, by decide +kernel, by decide +kernel⟩
/-- a part of the row -/
theorem rd {K : PySem.W.Frag} {M : Mt K} {H0 H : Hp} {a : Addr} {ns : List Int} {i s r j : Int} {v : V} {Q : VK} (R : Rw M H0 a ns i s r H) (h : atI [V.ref a, .int i, .int s, .int r] j = some v) (q : Q v H) : rIx K (.ref M.row) (.int j) H Q :=
  .inl ⟨_, _, _, _, rfl, rfl, SqL.of R.at_, h, q⟩
theorem ite_t {c : Bool} {A B : Prop} (hc : c = true) (h : A) : if c = true then A else B := by rw [if_pos hc]; exact h
theorem ite_f {c : Bool} {A B : Prop} (hc : c = false) (h : B) : if c = true then A else B := by rw [hc, if_neg Bool.false_ne_true]; exact h
theorem ixN_of {n j : Nat} (hj : j < n) : ixN n (j : Int) = some j := by
  unfold ixN
  rw [if_pos (Int.natCast_nonneg j), if_pos (Int.ofNat_lt.mpr hj)]
  simp
section
variable {X : Cx}
theorem pvR (i : Nat) {x : Str} {pos : Pos} (hN : X.N[i]? = some x := by rfl) (hv : Vis X.env.scope x := by first | exact Or.inl rfl | exact Or.inr (Or.inl rfl)) (hd : (x == ("__debug__" : Str)) = false := by decide) (hcd : (x == ("__classdict__" : Str)) = false := by decide) : PE X (.Name x pos) (tVar i) := pe_var hN hv hd hcd
theorem pxR (j : Int) {i : Nat} {x : Str} {pos p1 p2 : Pos} {k : Nat} (hN : X.N[i]? = some x := by rfl) (hv : Vis X.env.scope x := by first | exact Or.inl rfl | exact Or.inr (Or.inl rfl)) (hd : (x == ("__debug__" : Str)) = false := by decide) (hcd : (x == ("__classdict__" : Str)) = false := by decide) :
    PE X (.Subscript (.Name x pos) (.Constant (.int j) k p1) p2) (tOp (rIx X.K) (tVar i) (tC (.int j))) := pe_ix ix_seq (pe_var hN hv hd hcd) pe_int (by intro _ _; rfl)
theorem psR {j : Int} {i : Nat} {x : Str} {pos p1 p2 p3 : Pos} {k : Nat} {e : Expr} {t : TE} (he : PE X e t) (hN : X.N[i]? = some x := by rfl) (hv : Vis X.env.scope x := by first | exact Or.inl rfl | exact Or.inr (Or.inl rfl)) (hd : (x == ("__debug__" : Str)) = false := by decide) (hcd : (x == ("__classdict__" : Str)) = false := by decide)
    (ha : ∀ (env : Env) v, assign (.Subscript (.Name x pos) (.Constant (.int j) k p1) p2) env v = (do let ov ← holding [v] (eval (.Name x pos) env); let iv ← holding [v, ov] (eval (.Constant (.int j) k p1) env); standAt p2; holding [v, ov, iv] (setItem ov iv v); release [v, ov, iv] []) := by intro _ _; rfl)
    (hs : ∀ env, swapsWithSole [.Subscript (.Name x pos) (.Constant (.int j) k p1) p2] e p3.line env = pure false := by intro _; rfl) (hw : ∀ env, swappedStores [.Subscript (.Name x pos) (.Constant (.int j) k p1) p2] e env = pure none := by intro _; rfl)
    (h1 : ∀ env, (assignEach [.Subscript (.Name x pos) (.Constant (.int j) k p1) p2] env).map (·.2) = [assign (.Subscript (.Name x pos) (.Constant (.int j) k p1) p2) env] := by intro _; rfl) :
    PS X (.Assign [.Subscript (.Name x pos) (.Constant (.int j) k p1) p2] e p3) (tAsg t (L2.gSub (tVar i) (tC (.int j)) rSetL)) :=
  ps_asg he (pg_sub (pe_var hN hv hd hcd) pe_int set_list (ha _)) (hs _) (hw _) (h1 _)
abbrev rInt1 : List V → Hp → VK → Prop := fun xs H Q => ∃ i, xs = [.int i] ∧ Q (.int i) H
theorem piR {e : Expr} {t : TE} {p pos : Pos} (he : PE X e t) (hg : Gl X "int") (hm : X.mg "int" = none) (hs : starEach [e] X.env = (false, eval e X.env) :: starEach [] X.env := by rfl) : PE X (.Call (.Name "int" p) [e] [] pos) (tCB rInt1 (tCons t tNil)) :=
  have hc : CallR X (.type "int") rInt1 := fun pins s σ H vs us Q I r q => call_int1 pins s σ H vs us Q I r (.inl q)
  pe_callTy hc hg hm (by decide +kernel) (pa_cons he pa_nil hs) (by decide) (by decide) hs rfl
theorem plR {e : Expr} {t : TE} {p pos : Pos} (he : PE X e t) (hg : Gl X "len") (hm : X.mg "len" = none) (hs : starEach [e] X.env = (false, eval e X.env) :: starEach [] X.env := by rfl) : PE X (.Call (.Name "len" p) [e] [] pos) (tCB (fun xs H Q => ∃ x n, xs = [x] ∧ LenV X.K x H n ∧ Q (.int n) H) (tCons t tNil)) :=
  pe_callB call_len hg hm (by decide +kernel) (pa_cons he pa_nil hs) (by decide) (by decide) hs rfl
end
theorem ok__law_taken {Γ : Ga} {Z : Zs} (b_int : Γ.mg "int" = none) (b_len : Γ.mg "len" = none) {f : Addr} {fd : FuncData} (F : Fun Γ.K "_law_taken" "_law_taken" s__law_taken f fd) (hm : Γ.mg "_law_taken" = some (.ref f)) (hb : Binds Γ.K fd ["_law_row", "_law_many"] []) : DefOk Γ 1 "_law_taken" 2 (S__law_taken Z) := by
  refine ⟨f, fd, _, ?_, hm, F.kp, hb⟩
  refine F.okX sc__law_taken (fun vs H Q E h => by rw [spD_len h]; rfl) (fun cdv A outer s H vs Q E hr h => ?_)
  obtain ⟨M, ds, hi, r, hl, ⟨m, rfl, m0, m1⟩, hq, hx⟩ := h
  cases r with
  | cons r rr =>
    cases r
    cases rr with
    | cons r rr =>
      cases r
      cases rr
      obtain ⟨a, ns, i, z, q, R⟩ := Rw.of hi
      have fin : ∀ {i z q : Int} {H1 : Hp} {k : Int}, Rw M H a ns i z q H1 → Q (.int (k % m)) H1 := fun {i z q H1 k} R1 =>
        hq (.int (k % m)) _ H1 ⟨m, k % m, rfl, rfl, Int.emod_nonneg _ (by omega), Int.emod_lt_of_pos _ m0⟩ R1.inv R1.ex (.int _)
      have nm : nobehind = nobehind := rfl
      refine ⟨_, pss_cons (ps_if (pt_cmpR op_gt (pxR 3 (i := 0)) pe_int (nomark _))
          (pss_cons (ps_set (i := 2) sc__law_taken.nd rfl (Or.inl rfl) (pe_op op_mod (piR (pxR 3 (i := 0)) rfl b_int) (pvR 1))) (pss_cons (psR (i := 0) (pe_op op_fdivW (pxR 3 (i := 0)) (pvR 1))) (pss_one (ps_ret (pvR 2))))) pss_nil)
        (pss_cons (psR (i := 0) (pe_op op_add (pxR 1 (i := 0)) pe_int))
        (pss_cons (ps_if (pt_cmpR op_gt (pxR 1 (i := 0)) (plR (pxR 0 (i := 0)) rfl b_len) (nomark _))
          (pss_cons (psR (i := 0) (pe_op op_mod (piR (pe_op op_add (pe_op op_mul (pxR 2 (i := 0)) pe_int) pe_int) rfl b_int) pe_int)) (pss_one (ps_ret (pe_op op_mod (piR (pe_op op_fdiv (pxR 2 (i := 0)) pe_int) rfl b_int) (pvR 1))))) pss_nil)
        (pss_cons (ps_set (i := 3) sc__law_taken.nd rfl (Or.inl rfl) (pe_ix ix_seq (pxR 0 (i := 0)) (pe_op op_sub (pxR 1 (i := 0)) pe_int) (by intro _ _; rfl)))
        (pss_cons (psR (i := 0) (pe_op op_mod (piR (pe_op op_add (pe_op op_add (pe_op op_mul (pxR 2 (i := 0)) pe_int) (pvR 3)) pe_int) rfl b_int) pe_int))
        (pss_cons (ps_if (pt_cmpR op_ge (pvR 3) (pe_op op_pow pe_int pe_int) (nomark _)) (pss_one (psR (i := 0) (pe_op op_fdivW (pvR 3) (pvR 1)))) pss_nil)
        (pss_one (ps_ret (pe_op op_mod (piR (pvR 3) rfl b_int) (pvR 1))))))))), ?_⟩
      have m7 : (0 : Int) < 2147483647 := by decide
      have div : ∀ k : Int, CDivW k m := fun k => ⟨m0, Nat.lt_trans ((Nat.log2_lt (by omega)).mpr (show m.natAbs < 2 ^ 51 by omega)) (by decide)⟩
      refine ⟨_, rfl, rd R at3 ⟨_, _, rfl, rfl, _, rfl, ?_⟩⟩
      by_cases c : q > 0
      · refine ite_t (decide_eq_true c) ?_
        refine ⟨_, rfl, rd R at3 ⟨_, rfl, _, rfl, _, _, rfl, rfl, m0, ?_⟩⟩
        refine ⟨_, rfl, rd R at3 ⟨_, rfl, _, _, rfl, rfl, div _, _, rfl, _, _, _, _, rfl, rfl, R.at_, rfl, ?_⟩⟩
        exact ⟨_, rfl, fin (R.put (i' := i) (s' := z) (r' := q / m) R.nn)⟩
      · refine ite_f (decide_eq_false c) ?_
        refine ⟨_, rfl, rd R at1 ⟨_, _, rfl, rfl, _, rfl, _, _, _, _, rfl, rfl, R.at_, rfl, ?_⟩⟩
        have R1 := R.put (i' := i + 1) (s' := z) (r' := q) (by have := R.nn; omega)
        refine ⟨_, rfl, rd R1 at1 ⟨_, rfl, rd R1 at0 ⟨_, _, rfl, .inl ⟨_, R1.sq.sq, rfl⟩, _, _, rfl, rfl, _, rfl, ?_⟩⟩⟩
        rw [List.length_map]
        by_cases c2 : i + 1 > (ns.length : Int)
        · refine ite_t (decide_eq_true c2) ?_
          refine ⟨_, rfl, rd R1 at2 ⟨_, _, rfl, rfl, .inr ⟨by decide, by decide⟩, _, _, rfl, rfl, _, rfl, _, _, rfl, rfl, m7, _, rfl, _, _, _, _, rfl, rfl, R1.at_, rfl, ?_⟩⟩
          have R2 := R1.put (i' := i + 1) (s' := (z * 48271 + 11) % 2147483647) (r' := q) (by have := R.nn; omega)
          exact ⟨_, rfl, rd R2 at2 ⟨_, _, rfl, rfl, ⟨by decide, by decide⟩, _, rfl, _, rfl, _, _, rfl, rfl, m0, fin R2⟩⟩
        · refine ite_f (decide_eq_false c2) ?_
          have hlt : i.toNat < ns.length := by have := R.nn; omega
          have hat : atI (ns.map V.int) (i + 1 - 1) = some (V.int ns[i.toNat]) := by
            have e : i + 1 - 1 = ((i.toNat : Nat) : Int) := by have := R.nn; omega
            rw [e]
            unfold atI
            rw [List.length_map, show ixN ns.length ((i.toNat : Nat) : Int) = some i.toNat from ixN_of hlt]
            show (ns.map V.int)[i.toNat]? = _
            rw [List.getElem?_map, List.getElem?_eq_getElem hlt]
            rfl
          refine ⟨_, rfl, rd R1 at0 ⟨_, rfl, rd R1 at1 ⟨_, _, rfl, rfl, .inl ⟨_, _, _, _, rfl, rfl, R1.sq.sq, hat, ?_⟩⟩⟩⟩
          generalize hn : ns[i.toNat] = n
          refine ⟨_, rfl, rd R1 at2 ⟨_, _, rfl, rfl, .inr ⟨by decide, by decide⟩, _, rfl, _, _, rfl, rfl, _, _, rfl, rfl, _, rfl, _, _, rfl, rfl, m7, _, rfl, _, _, _, _, rfl, rfl, R1.at_, rfl, ?_⟩⟩
          have R2 := R1.put (i' := i + 1) (s' := (z * 48271 + n + 11) % 2147483647) (r' := q) (by have := R.nn; omega)
          refine ⟨_, rfl, _, _, rfl, rfl, ⟨by decide, by decide, by decide⟩, _, _, rfl, rfl, _, rfl, ?_⟩
          by_cases c3 : (10 : Int) ^ (18 : Int).toNat ≤ n
          · refine ite_t (decide_eq_true c3) ?_
            refine ⟨_, rfl, _, rfl, _, _, rfl, rfl, div _, _, rfl, _, _, _, _, rfl, rfl, R2.at_, rfl, ?_⟩
            have R3 := R2.put (i' := i + 1) (s' := (z * 48271 + n + 11) % 2147483647) (r' := n / m) (by have := R.nn; omega)
            exact ⟨_, rfl, _, rfl, _, rfl, _, _, rfl, rfl, m0, fin R3⟩
          · refine ite_f (decide_eq_false c3) ?_
            exact ⟨_, rfl, _, rfl, _, rfl, _, _, rfl, rfl, m0, fin R2⟩
end K53
end

section
set_option Elab.async false
set_option linter.all false
set_option maxRecDepth 100000
set_option maxHeartbeats 5000000
namespace K53
open PySem L2 DL PyProof.Rows
/-! ### the class -/
abbrev stAt (st : Stmt) (i : Nat) : Stmt := (defBody st).getD i (.Pass ⟨0, 0, 0, 0⟩)
def bathF (w h c : D) : List (Str × D) := [("column_count", w), ("row_count", h), ("signs", c)]
theorem ncr : ¬ (("column_count" : Str) = "row_count") := by decide +kernel
theorem ncs : ¬ (("column_count" : Str) = "signs") := by decide +kernel
theorem nrs : ¬ (("row_count" : Str) = "signs") := by decide +kernel
theorem lkc (w h c : D) : (bathF w h c).lookup (Str.ofString "column_count") = some w := by simp [bathF, List.lookup]
theorem lkr (w h c : D) : (bathF w h c).lookup (Str.ofString "row_count") = some h := by
  have e : ((Str.ofString "row_count") == "column_count") = false := by decide +kernel
  simp [bathF, List.lookup, e]
theorem lks (w h c : D) : (bathF w h c).lookup (Str.ofString "signs") = some c := by
  have e : ((Str.ofString "signs") == "column_count") = false := by decide +kernel
  have e2 : ((Str.ofString "signs") == "row_count") = false := by decide +kernel
  simp [bathF, List.lookup, e, e2]
abbrev s_Bath___init__ : Stmt := inClass (top 38) 0
abbrev n_Bath___init__ : List Str := ["self", "width", "height", "cells", "part"]
theorem sc_Bath___init__ : FnScope n_Bath___init__ ["self", "width", "height", "cells"] (defScope s_Bath___init__) := ⟨rfl, rfl, rfl, by decide +kernel, rfl, by decide +kernel, by decide +kernel⟩
def T_Bath___init___0 (Z : Zs) (row : Addr) : TDS := (TSet 4 (TCall row (specR (F_wrong_side Z)) 2 (TCons (TV 1) (TCons (TV 2) TNil))))
def U_Bath___init___0 (Z : Zs) (row : Addr) : FS := (fSet 4 (fCall (F_wrong_side Z row) 2 (fCons (fVar 1) (fCons (fVar 2) fNil))))
theorem ds_Bath___init___0 {Γ : Ga} {Z : Zs} (B : Fx Γ Z) (F_wrong_side : DefOk Γ 2 "wrong_side" 2 (specR (F_wrong_side Z))) (E : XR) : DS (gaOf Γ 3 n_Bath___init__ s_Bath___init__ E) (stAt s_Bath___init__ 0) (T_Bath___init___0 Z E.row) :=
  (ds_set 4 (de_call F_wrong_side.at (Nat.le_of_ble_eq_true rfl) (by rfl) (da_cons (de_var 1) (da_cons (de_var 2) da_nil))) sc_Bath___init__.nd)
theorem rs_Bath___init___0 (Z : Zs) (row : Addr) : RS (U_Bath___init___0 Z row) (T_Bath___init___0 Z row) :=
  (r_set (r_callS (rf_wrong_side Z row) (r_cons r_var (r_cons r_var r_nil))))
def T_Bath___init___1 (Z : Zs) (row : Addr) : TDS := (TIf (TTest (TOp gNotN (TV 4) (TC .non))) (TRaise1 Z.InvalidBath (Str.ofString "part") (TCons (TV 4) TNil)) (fun De ρ _ => De.nx ρ))
def U_Bath___init___1 (Z : Zs) (row : Addr) : FS := (fIf (fTest (fOp oNotN (fVar 4) (fC .non))) (fRaise1 Z.InvalidBath (Str.ofString "part") (fCons (fVar 4) fNil)) fNext)
theorem ds_Bath___init___1 {Γ : Ga} {Z : Zs} (B : Fx Γ Z) (X_InvalidBath : ExcOk1 Γ 1 "InvalidBath" Z.InvalidBath "part") (E : XR) : DS (gaOf Γ 3 n_Bath___init__ s_Bath___init__ E) (stAt s_Bath___init__ 1) (T_Bath___init___1 Z E.row) :=
  (ds_if (dt_notN (de_var 4) de_non) (ds_one (ds_raise1 X_InvalidBath.at (Nat.le_of_ble_eq_true rfl) (by rfl) (da_cons (de_var 4) da_nil))) ds_nil)
theorem rs_Bath___init___1 (Z : Zs) (row : Addr) : RS (U_Bath___init___1 Z row) (T_Bath___init___1 Z row) :=
  (r_if (r_test (r_op i_notN r_var r_c)) (r_raise1 (r_cons r_var r_nil)) r_next)
def T_Bath___init___2 (Z : Zs) (row : Addr) : TDS := (TIf (TNot (TTest (TCall row (specR (F_is_sign_text Z)) 2 (TCons (TV 3) (TCons (TOp gMul0 (TV 1) (TV 2)) TNil))))) (TRaise1 Z.InvalidBath (Str.ofString "part") (TCons (TC (.str [99, 101, 108, 108, 115])) TNil)) (fun De ρ _ => De.nx ρ))
def U_Bath___init___2 (Z : Zs) (row : Addr) : FS := (fIf (fNot (fTest (fCall (F_is_sign_text Z row) 2 (fCons (fVar 3) (fCons (fOp oMul (fVar 1) (fVar 2)) fNil))))) (fRaise1 Z.InvalidBath (Str.ofString "part") (fCons (fC (.str [99, 101, 108, 108, 115])) fNil)) fNext)
theorem ds_Bath___init___2 {Γ : Ga} {Z : Zs} (B : Fx Γ Z) (F_is_sign_text : DefOk Γ 3 "is_sign_text" 2 (specR (F_is_sign_text Z))) (X_InvalidBath : ExcOk1 Γ 1 "InvalidBath" Z.InvalidBath "part") (E : XR) : DS (gaOf Γ 3 n_Bath___init__ s_Bath___init__ E) (stAt s_Bath___init__ 2) (T_Bath___init___2 Z E.row) :=
  (ds_if (dt_not (dt_val (de_call F_is_sign_text.at (Nat.le_of_ble_eq_true rfl) (by rfl) (da_cons (de_var 3) (da_cons (de_mul0 (de_var 1) (de_var 2)) da_nil))))) (ds_one (ds_raise1 X_InvalidBath.at (Nat.le_of_ble_eq_true rfl) (by rfl) (da_cons (de_str [99, 101, 108, 108, 115]) da_nil))) ds_nil)
theorem rs_Bath___init___2 (Z : Zs) (row : Addr) : RS (U_Bath___init___2 Z row) (T_Bath___init___2 Z row) :=
  (r_if (r_not (r_test (r_callS (rf_is_sign_text Z row) (r_cons r_var (r_cons (r_op i_mul r_var r_var) r_nil))))) (r_raise1 (r_cons r_c r_nil)) r_next)
/-- what is left of __init__ behind its checks -/
def endB (Z : Zs) (w h c : D) : Oc → Tm D
  | .nx _ => .ret (.ins Z.Bath (bathF w h c))
  | _ => .stuck
def U_Bath_checks (Z : Zs) (row : Addr) : FS := fSeq (U_Bath___init___0 Z row) (fSeq (U_Bath___init___1 Z row) (U_Bath___init___2 Z row))
@[irreducible] def F_Bath___init__ (Z : Zs) (row : Addr) : Fn := fun ds => match ds with
  | [w, h, c] => (U_Bath_checks Z row [some (.sh .non), some (.sh w), some (.sh h), some (.sh c), none]).bind (endB Z w h c)
  | _ => .stuck
theorem init_any (Z : Zs) (row x : Addr) (w h c : D) : (U_Bath_checks Z row [some (.sh (.ref x)), some (.sh w), some (.sh h), some (.sh c), none]).bind (endB Z w h c) = F_Bath___init__ Z row [w, h, c] := by
  unfold F_Bath___init__
  simp only [U_Bath_checks, U_Bath___init___0, U_Bath___init___1, U_Bath___init___2, fSeq, fSet, fIf, fCall, fCons, fNil, fVar, fTest, fOp, fC, fNot, fRaise1, fNext, Tm.bind_assoc, Tm.bind_ret, List.getElem?_cons_zero, List.getElem?_cons_succ, List.set_cons_zero, List.set_cons_succ]
  refine congrArg (Tm.bind _) (funext fun a => ?_)
  cases e : isNon a <;> simp only [oNotN, e, Tm.ofO_some, Bool.not_true, Bool.not_false, Tm.bind_ret, Tm.bind_chk, Tm.bind_exc, Tm.bind_assoc, List.getElem?_cons_zero, List.getElem?_cons_succ]
  refine congrArg (Tm.bind _) (funext fun b => ?_)
  refine congrArg (Tm.chk _) (congrArg (Tm.bind _) (funext fun b2 => ?_))
  refine congrArg (Tm.bind _) (funext fun b3 => ?_)
  cases b3 <;> simp only [Bool.not_true, Bool.not_false, Tm.bind_chk, Tm.bind_exc, Tm.bind_ret, endB]
theorem self_R {f : Addr → Fn} {row : Addr} {ds : List D} (h : (specR f).pre row ds) : (f row ds).all ((specR f).post row ds) ((specR f).exc row ds) := Tm.all_self h
theorem init_go {Z : Zs} {row x : Addr} {w h c : D} (hp : (specR (F_Bath___init__ Z)).pre row [w, h, c]) : ((U_Bath_checks Z row [some (.sh (.ref x)), some (.sh w), some (.sh h), some (.sh c), none]).bind (endB Z w h c)).all ((specR (F_Bath___init__ Z)).post row [w, h, c]) ((specR (F_Bath___init__ Z)).exc row [w, h, c]) := by
  rw [init_any]
  exact @self_R (F_Bath___init__ Z) row [w, h, c] hp
theorem raise_any {C : Addr} {f : Str} {A : FL} {ρ : En} {Q Q' : Oc → Prop} {X : XP} (h : (fRaise1 C f A ρ).all Q X) : (fRaise1 C f A ρ).all Q' X := by
  have h : ((A ρ).bind _).all Q X := h
  show ((A ρ).bind _).all Q' X
  rw [Tm.all_bind] at h ⊢
  refine Tm.mono1 (fun ds hd => ?_) h
  match ds, hd with
  | [d], hd =>
    obtain ⟨a, b⟩ := Tm.all_chk.mp hd
    exact Tm.all_chk.mpr ⟨a, b⟩
theorem flds (v1 v2 v3 : V) : putF "signs" v3 (putF "row_count" v2 (putF "column_count" v1 [])) = ([("column_count", v1), ("row_count", v2), ("signs", v3)] : List (Str × V)) := by
  show putF "signs" v3 (if ("column_count" : Str) = "row_count" then _ else (("column_count" : Str), v1) :: [(("row_count" : Str), v2)]) = _
  rw [if_neg ncr]
  show (if ("column_count" : Str) = "signs" then _ else (("column_count" : Str), v1) :: (if ("row_count" : Str) = "signs" then _ else (("row_count" : Str), v2) :: [(("signs" : Str), v3)])) = _
  rw [if_neg ncs, if_neg nrs]
theorem flds2 (v1 v2 : V) : putF "row_count" v2 (putF "column_count" v1 []) = ([("column_count", v1), ("row_count", v2)] : List (Str × V)) := by
  show (if ("column_count" : Str) = "row_count" then _ else (("column_count" : Str), v1) :: [(("row_count" : Str), v2)]) = _
  rw [if_neg ncr]
theorem mk_Bath_S {Γ : Ga} {Z : Zs} (B : Fx Γ Z) {S : DL.Spec} {E0 : Addr → FE} {c1 c2 : Addr → FT} {A1 A2 : Addr → FL} {C1 C2 : Addr} {f1 f2 : Str} {W0 W1 W2 : Addr → TDS}
    (d0 : ∀ E : XR, DS (gaOf Γ 3 n_Bath___init__ s_Bath___init__ E) (stAt s_Bath___init__ 0) (W0 E.row)) (d1 : ∀ E : XR, DS (gaOf Γ 3 n_Bath___init__ s_Bath___init__ E) (stAt s_Bath___init__ 1) (W1 E.row)) (d2 : ∀ E : XR, DS (gaOf Γ 3 n_Bath___init__ s_Bath___init__ E) (stAt s_Bath___init__ 2) (W2 E.row))
    (q0 : ∀ row, RS (fSet 4 (E0 row)) (W0 row)) (q1 : ∀ row, RS (fIf (c1 row) (fRaise1 C1 f1 (A1 row)) fNext) (W1 row)) (q2 : ∀ row, RS (fIf (c2 row) (fRaise1 C2 f2 (A2 row)) fNext) (W2 row))
    {U : Addr → FS} (hU : ∀ row, U row = fSeq (fSet 4 (E0 row)) (fSeq (fIf (c1 row) (fRaise1 C1 f1 (A1 row)) fNext) (fIf (c2 row) (fRaise1 C2 f2 (A2 row)) fNext)))
    (hS : ∀ (row x : Addr) (w h c : D), S.pre row [w, h, c] → ((U row [some (.sh (.ref x)), some (.sh w), some (.sh h), some (.sh c), none]).bind (endB Z w h c)).all (S.post row [w, h, c]) (S.exc row [w, h, c])) {f : Addr} {fd : FuncData} (F : Fun Γ.K "__init__" "Bath.__init__" s_Bath___init__ f fd) :
    FnOk Γ.P Γ.w Γ.K Γ.mg Γ.base (L2.CX Γ.P Γ.w) 4 f fd ["self", "width", "height", "cells"] (spMk Γ.K Z.Bath 3 S) := by
  refine F.okX sc_Bath___init__ (fun vs H Q E h => ?_) (fun cdv A outer s H vs Q E hr h => ?_)
  · obtain ⟨M, ds, x, dx, H1, us, rfl, _, r, hl, _⟩ := h
    rw [List.length_cons, ← r.length, hl]
    rfl
  obtain ⟨M, ds, x, dx, H1, us, rfl, hi, r, hl, hx, hdx, ne, rfl, hp, hq, hxc⟩ := h
  obtain ⟨w, h, c, rfl⟩ : ∃ w h c, ds = [w, h, c] := by
    match ds, hl with
    | [w, h, c], _ => exact ⟨w, h, c, rfl⟩
  have nd : ¬ M.dom x := fun z => M.nfree _ _ hi z hx
  have hx1 : upd H1 dx (.own x) x = none := by rw [upd_ne ne.symm]; exact hx
  have old : ∀ c o, H1 c = some o → upd (upd H1 dx (.own x)) x (.ins Z.Bath dx []) c = some o := fun c o e => by
    rw [upd_ne (ne_of_none e hx), upd_ne (ne_of_none e hdx)]
    exact e
  have i' : (M.plusO x (.ins Z.Bath dx []) nd trivial).inv (upd (upd H1 dx (.own x)) x (.ins Z.Bath dx [])) := ⟨M.fresh _ _ _ (M.fresh _ _ _ hi hdx) hx1, upd_same⟩
  have tr : Tr M.dom H1 (M.plusO x (.ins Z.Bath dx []) nd trivial).dom (upd (upd H1 dx (.own x)) x (.ins Z.Bath dx [])) := fun c o n e _ => ⟨fun z => z.elim n fun z => (ne_of_none e hx) z, old c o e⟩
  have R0 := rep_start (N := n_Bath___init__) (K := Γ.K) i' (Rps.cons (.ref x) (r.tr tr))
  have ok := okx_def (Γ := Γ) (k := 3) (N := n_Bath___init__) (st := s_Bath___init__) (qual := "Bath.__init__") (f := f) (cdv := cdv) (A := A) (outer := outer) (s := s) (H := upd (upd H1 dx (.own x)) x (.ins Z.Bath dx [])) (Ex := E) (row := M.row) (Tb := M.tabs) hr
  obtain ⟨t1, p1, s1⟩ := d0 ⟨E, M.row, M.tabs, none⟩
  obtain ⟨t2, p2, s2⟩ := d1 ⟨E, M.row, M.tabs, none⟩
  obtain ⟨t3, p3, s3⟩ := d2 ⟨E, M.row, M.tabs, none⟩
  refine ⟨_, pss_cons (p1 _ ok) (pss_cons (p2 _ ok) (pss_cons (p3 _ ok) (pss_cons (ps_fld (pv 0) (pv 1) rfl) (pss_cons (ps_fld (pv 0) (pv 2) rfl) (pss_one (ps_fld (pv 0) (pv 3) rfl)))))), ?_⟩
  have LX : LinkX (M.plusO x (.ins Z.Bath dx []) nd trivial) (upd (upd H1 dx (.own x)) x (.ins Z.Bath dx [])) ⟨E, M.row, M.tabs, none⟩ (S.exc M.row [w, h, c]) := ⟨⟨rfl, rfl, trivial⟩, fun xc cls d H' px ex iv rx =>
    hxc xc cls d H' px iv.1 (fun c o n e wt => ex c o (fun z => z.elim n fun z => (ne_of_none e hx) z) (old c o e) wt) (rx.to fun c o n z wt => ⟨fun w => n (.inl w), z⟩)⟩
  -- the fields
  have fin : ∀ (o : Option DV) (σ : L2.St) (H2 : Hp), S.post M.row [w, h, c] (.ins Z.Bath (bathF w h c)) → Rep (M.plusO x (.ins Z.Bath dx []) nd trivial) (upd (upd H1 dx (.own x)) x (.ins Z.Bath dx [])) [some (.sh (.ref x)), some (.sh w), some (.sh h), some (.sh c), o] σ H2 →
      tSeq (sFld Γ.K (tVar 0) (tVar 1) "column_count") (tSeq (sFld Γ.K (tVar 0) (tVar 2) "row_count") (sFld Γ.K (tVar 0) (tVar 3) "signs")) { nx := fun _ H' => Q .non H', rt := Q } σ H2 := by
    intro o σ H2 hpost R
    obtain ⟨v0, e0, r0⟩ := R.sh 0 _ rfl
    obtain ⟨v1, e1, r1⟩ := R.sh 1 _ rfl
    obtain ⟨v2, e2, r2⟩ := R.sh 2 _ rfl
    obtain ⟨v3, e3, r3⟩ := R.sh 3 _ rfl
    cases r0
    have at1 : H2 x = some (.ins Z.Bath dx []) := R.inv.2
    have tr2 : ∀ (o' : HO), Tr (Nx (M.plusO x (.ins Z.Bath dx []) nd trivial) [some (.sh (.ref x)), some (.sh w), some (.sh h), some (.sh c), o] σ) H2 M.dom (upd (upd (upd H2 x (.ins Z.Bath dx (putF "column_count" v1 []))) x (.ins Z.Bath dx (putF "row_count" v2 (putF "column_count" v1 [])))) x o') := fun o' b u n e _ => by
      have nb : b ≠ x := fun z => n (.inl (.inr z))
      exact ⟨fun z => n (.inl (.inl z)), by rw [upd_ne nb, upd_ne nb, upd_ne nb]; exact e⟩
    refine ⟨_, e1, _, e0, x, Z.Bath, dx, _, rfl, at1, B.cls_Bath, B.na_Bath_column_count, by decide, ?_⟩
    refine ⟨_, e2, _, e0, x, Z.Bath, dx, _, rfl, upd_same, B.cls_Bath, B.na_Bath_row_count, by show 1 < 1000; decide, ?_⟩
    refine ⟨_, e3, _, e0, x, Z.Bath, dx, _, rfl, upd_same, B.cls_Bath, B.na_Bath_signs, by rw [flds2]; show 2 < 1000; decide, ?_⟩
    have inv3 : ∀ o3, M.inv (upd (upd (upd H2 x (.ins Z.Bath dx (putF "column_count" v1 []))) x (.ins Z.Bath dx (putF "row_count" v2 (putF "column_count" v1 [])))) x o3) := fun o3 =>
      M.other _ _ _ _ (M.other _ _ _ _ (M.other _ _ _ _ R.inv.1 nd at1 trivial) nd upd_same trivial) nd upd_same trivial
    have t2 := tr2 (.ins Z.Bath dx (putF "signs" v3 (putF "row_count" v2 (putF "column_count" v1 []))))
    refine hq (.ins Z.Bath (bathF w h c)) _ hpost (inv3 _) (fun c o n e wt => ?_) (.ins nd (by rw [← flds]; exact upd_same) (.cons (r1.tr t2) (.cons (r2.tr t2) (.cons (r3.tr t2) .nil))))
    have nc := ne_of_none e hx
    rw [upd_ne nc, upd_ne nc, upd_ne nc]
    exact R.ex c o (fun z => z.elim n nc) (old c o e) wt
  have g0 : ((fSeq (fSet 4 (E0 M.row)) (fSeq (fIf (c1 M.row) (fRaise1 C1 f1 (A1 M.row)) fNext) (fIf (c2 M.row) (fRaise1 C2 f2 (A2 M.row)) fNext)) [some (.sh (.ref x)), some (.sh w), some (.sh h), some (.sh c), none]).bind (endB Z w h c)).all (S.post M.row [w, h, c]) (S.exc M.row [w, h, c]) := by
    rw [← hU]
    exact hS _ _ _ _ _ hp
  have g1 : ((fSet 4 (E0 M.row) [some (.sh (.ref x)), some (.sh w), some (.sh h), some (.sh c), none]).bind fun o => ((match o with | .nx ρ' => fSeq (fIf (c1 M.row) (fRaise1 C1 f1 (A1 M.row)) fNext) (fIf (c2 M.row) (fRaise1 C2 f2 (A2 M.row)) fNext) ρ' | o => .ret o).bind (endB Z w h c))).all (S.post M.row [w, h, c]) (S.exc M.row [w, h, c]) := by
    rw [← Tm.bind_assoc]; exact g0
  refine s1 _ _ _ _ _ _ { nx := fun ρ => ∃ o, ρ = [some (.sh (.ref x)), some (.sh w), some (.sh h), some (.sh c), o] ∧ ((fSeq (fIf (c1 M.row) (fRaise1 C1 f1 (A1 M.row)) fNext) (fIf (c2 M.row) (fRaise1 C2 f2 (A2 M.row)) fNext) ρ).bind (endB Z w h c)).all (S.post M.row [w, h, c]) (S.exc M.row [w, h, c]), rt := fun _ => False, bk := fun _ => False, ct := fun _ => False } _ R0 LX ⟨fun ρ σ H2 R e => ?_, fun _ _ _ _ _ _ z => z.elim, fun _ _ _ _ z => z.elim, fun _ _ _ _ z => z.elim⟩ ?_
  · obtain ⟨o, rfl, g2⟩ := e
    have g3 : ((fIf (c1 M.row) (fRaise1 C1 f1 (A1 M.row)) fNext [some (.sh (.ref x)), some (.sh w), some (.sh h), some (.sh c), o]).bind fun o => ((match o with | .nx ρ' => fIf (c2 M.row) (fRaise1 C2 f2 (A2 M.row)) fNext ρ' | o => .ret o).bind (endB Z w h c))).all (S.post M.row [w, h, c]) (S.exc M.row [w, h, c]) := by
      rw [← Tm.bind_assoc]; exact g2
    rw [Tm.all_bind] at g3
    refine s2 _ _ _ _ _ _ { nx := fun ρ => ρ = [some (.sh (.ref x)), some (.sh w), some (.sh h), some (.sh c), o] ∧ ((fIf (c2 M.row) (fRaise1 C2 f2 (A2 M.row)) fNext ρ).bind (endB Z w h c)).all (S.post M.row [w, h, c]) (S.exc M.row [w, h, c]), rt := fun _ => False, bk := fun _ => False, ct := fun _ => False } _ R LX ⟨fun ρ σ H2 R e => ?_, fun _ _ _ _ _ _ z => z.elim, fun _ _ _ _ z => z.elim, fun _ _ _ _ z => z.elim⟩ (q1 M.row _ _ _ ?_)
    · obtain ⟨rfl, g4⟩ := e
      rw [Tm.all_bind] at g4
      refine s3 _ _ _ _ _ _ { nx := fun ρ => ρ = [some (.sh (.ref x)), some (.sh w), some (.sh h), some (.sh c), o] ∧ S.post M.row [w, h, c] (.ins Z.Bath (bathF w h c)), rt := fun _ => False, bk := fun _ => False, ct := fun _ => False } _ R LX ⟨fun ρ σ H2 R e => ?_, fun _ _ _ _ _ _ z => z.elim, fun _ _ _ _ z => z.elim, fun _ _ _ _ z => z.elim⟩ (q2 M.row _ _ _ ?_)
      · obtain ⟨rfl, hpost⟩ := e
        exact fin o σ H2 hpost R
      · have g5 : ((fIf (c2 M.row) (fRaise1 C2 f2 (A2 M.row)) fNext _)).all _ _ := g4
        unfold fIf at g5
        show ((fIf (c2 M.row) (fRaise1 C2 f2 (A2 M.row)) fNext _)).all _ _
        unfold fIf
        rw [Tm.all_bind] at g5 ⊢
        refine Tm.mono1 (fun k hk => ?_) g5
        cases k with
        | true => exact raise_any hk
        | false => exact ⟨rfl, hk⟩
    · have g5 : ((fIf (c1 M.row) (fRaise1 C1 f1 (A1 M.row)) fNext _)).all _ _ := g3
      unfold fIf at g5
      show ((fIf (c1 M.row) (fRaise1 C1 f1 (A1 M.row)) fNext _)).all _ _
      unfold fIf
      rw [Tm.all_bind] at g5 ⊢
      refine Tm.mono1 (fun k hk => ?_) g5
      cases k with
      | true => exact raise_any hk
      | false => exact ⟨rfl, hk⟩
  · refine q0 M.row _ _ _ ?_
    have g5 : ((fSet 4 (E0 M.row) _).bind _).all _ _ := g1
    unfold fSet at g5
    show ((fSet 4 (E0 M.row) _)).all _ _
    unfold fSet
    rw [Tm.bind_assoc, Tm.all_bind] at g5
    rw [Tm.all_bind]
    exact Tm.mono1 (fun d hd => ⟨_, rfl, hd⟩) g5
theorem mk_Bath {Γ : Ga} {Z : Zs} (B : Fx Γ Z) (F1 : DefOk Γ 2 "wrong_side" 2 (specR (F_wrong_side Z))) (F2 : DefOk Γ 3 "is_sign_text" 2 (specR (F_is_sign_text Z))) (X1 : ExcOk1 Γ 1 "InvalidBath" Z.InvalidBath "part") {f : Addr} {fd : FuncData} (F : Fun Γ.K "__init__" "Bath.__init__" s_Bath___init__ f fd) :
    FnOk Γ.P Γ.w Γ.K Γ.mg Γ.base (L2.CX Γ.P Γ.w) 4 f fd ["self", "width", "height", "cells"] (spMk Γ.K Z.Bath 3 (specR (F_Bath___init__ Z))) :=
  mk_Bath_S B (S := specR (F_Bath___init__ Z)) (ds_Bath___init___0 B F1) (ds_Bath___init___1 B X1) (ds_Bath___init___2 B F2 X1) (rs_Bath___init___0 Z) (rs_Bath___init___1 Z) (rs_Bath___init___2 Z) (U := U_Bath_checks Z) (fun _ => rfl) (fun row x w h c hp => @init_go Z row x w h c hp) F
theorem ok_Bath_make {Γ : Ga} {Z : Zs} (B : Fx Γ Z) (F1 : DefOk Γ 2 "wrong_side" 2 (specR (F_wrong_side Z))) (F2 : DefOk Γ 3 "is_sign_text" 2 (specR (F_is_sign_text Z))) (X1 : ExcOk1 Γ 1 "InvalidBath" Z.InvalidBath "part") {f : Addr} {fd : FuncData} (F : Fun Γ.K "__init__" "Bath.__init__" s_Bath___init__ f fd)
    (hm : Γ.mg "Bath" = some (.ref Z.Bath)) (mk : Mk Γ.K Z.Bath f) (hb : Binds Γ.K fd ["self", "width", "height", "cells"] []) : MakeOk Γ 4 "Bath" Z.Bath 3 (specR (F_Bath___init__ Z)) :=
  ⟨f, fd, _, mk_Bath B F1 F2 X1 F, hm, mk, hb⟩
abbrev s_Bath___len__ : Stmt := inClass (top 38) 4
abbrev n_Bath___len__ : List Str := ["self"]
theorem sc_Bath___len__ : FnScope n_Bath___len__ ["self"] (defScope s_Bath___len__) := ⟨rfl, rfl, rfl, by decide +kernel, rfl, by decide +kernel, by decide +kernel⟩
def T_Bath___len__ (Z : Zs) (row : Addr) : TDS := (TRet (TCB gLen (TCons (TFld Z.Bath (Str.ofString "signs") (TV 0)) TNil)))
def U_Bath___len__ (Z : Zs) (row : Addr) : FS := (fRet (fCB oLen (fCons (fFld Z.Bath (Str.ofString "signs") (fVar 0)) fNil)))
@[irreducible] def F_Bath___len__ (Z : Zs) (row : Addr) : Fn := fDef 1 (U_Bath___len__ Z row)
theorem Fe_Bath___len__ (Z : Zs) : F_Bath___len__ Z = fun row => fDef 1 (U_Bath___len__ Z row) := by
  funext row
  unfold F_Bath___len__
  rfl
theorem ds_Bath___len__ {Γ : Ga} {Z : Zs} (B : Fx Γ Z) (E : XR) : DSs (gaOf Γ 0 n_Bath___len__ s_Bath___len__ E) (defBody s_Bath___len__) (T_Bath___len__ Z E.row) :=
  (ds_one (ds_ret (de_len (de_fld B.cls_Bath B.na_Bath_signs (de_var 0)) (by rfl) B.b_len)))
theorem rs_Bath___len__ (Z : Zs) (row : Addr) : RS (U_Bath___len__ Z row) (T_Bath___len__ Z row) :=
  (r_ret (r_cb i_len (r_cons (r_fld r_var) r_nil)))
theorem rf_Bath___len__ (Z : Zs) (row : Addr) : RowF (specR (F_Bath___len__ Z)) row (F_Bath___len__ Z row) := rowF _ row
theorem fn_Bath___len__ {Γ : Ga} {Z : Zs} (B : Fx Γ Z) {f : Addr} {fd : FuncData} (F : Fun Γ.K "__len__" "Bath.__len__" s_Bath___len__ f fd) : FnOk Γ.P Γ.w Γ.K Γ.mg Γ.base (L2.CX Γ.P Γ.w) 1 f fd ["self"] (spD Γ.K 1 (specR (F_Bath___len__ Z))) := by
  rw [Fe_Bath___len__]
  exact fn_def F sc_Bath___len__ rfl (fun E => ds_Bath___len__ B E) (fun row ds _ hp => fDef_ends (rs_Bath___len__ Z row) hp)
abbrev s_Bath___eq__ : Stmt := inClass (top 38) 5
abbrev n_Bath___eq__ : List Str := ["self", "other"]
theorem sc_Bath___eq__ : FnScope n_Bath___eq__ ["self", "other"] (defScope s_Bath___eq__) := ⟨rfl, rfl, rfl, by decide +kernel, rfl, by decide +kernel, by decide +kernel⟩
def T_Bath___eq__ (Z : Zs) (row : Addr) : TDS := (TRet (TAndV (TCB (gIsC Z.Bath) (TCons (TV 1) (TCons (TC (.ref Z.Bath)) TNil))) (TAndV (TOp gEq (TFld Z.Bath (Str.ofString "column_count") (TV 0)) (TFld Z.Bath (Str.ofString "column_count") (TV 1))) (TAndV (TOp gEq (TFld Z.Bath (Str.ofString "row_count") (TV 0)) (TFld Z.Bath (Str.ofString "row_count") (TV 1))) (TOp gEq (TFld Z.Bath (Str.ofString "signs") (TV 0)) (TFld Z.Bath (Str.ofString "signs") (TV 1)))))))
def U_Bath___eq__ (Z : Zs) (row : Addr) : FS := (fRet (fAndV (fCB (oIsC Z.Bath) (fCons (fVar 1) (fCons (fC (.ref Z.Bath)) fNil))) (fAndV (fOp oEq (fFld Z.Bath (Str.ofString "column_count") (fVar 0)) (fFld Z.Bath (Str.ofString "column_count") (fVar 1))) (fAndV (fOp oEq (fFld Z.Bath (Str.ofString "row_count") (fVar 0)) (fFld Z.Bath (Str.ofString "row_count") (fVar 1))) (fOp oEq (fFld Z.Bath (Str.ofString "signs") (fVar 0)) (fFld Z.Bath (Str.ofString "signs") (fVar 1)))))))
@[irreducible] def F_Bath___eq__ (Z : Zs) (row : Addr) : Fn := fDef 2 (U_Bath___eq__ Z row)
theorem Fe_Bath___eq__ (Z : Zs) : F_Bath___eq__ Z = fun row => fDef 2 (U_Bath___eq__ Z row) := by
  funext row
  unfold F_Bath___eq__
  rfl
theorem ds_Bath___eq__ {Γ : Ga} {Z : Zs} (B : Fx Γ Z) (E : XR) : DSs (gaOf Γ 0 n_Bath___eq__ s_Bath___eq__ E) (defBody s_Bath___eq__) (T_Bath___eq__ Z E.row) :=
  (ds_one (ds_ret (de_and (de_isC B.ic_Bath (da_cons (de_var 1) (da_cons (de_gc B.c_Bath) da_nil)) (by rfl) B.b_isinstance) (de_and (de_eq (de_fld B.cls_Bath B.na_Bath_column_count (de_var 0)) (de_fld B.cls_Bath B.na_Bath_column_count (de_var 1))) (de_and (de_eq (de_fld B.cls_Bath B.na_Bath_row_count (de_var 0)) (de_fld B.cls_Bath B.na_Bath_row_count (de_var 1))) (de_one (de_eq (de_fld B.cls_Bath B.na_Bath_signs (de_var 0)) (de_fld B.cls_Bath B.na_Bath_signs (de_var 1)))))))))
theorem rs_Bath___eq__ (Z : Zs) (row : Addr) : RS (U_Bath___eq__ Z row) (T_Bath___eq__ Z row) :=
  (r_ret (r_andV (r_cb i_isC (r_cons r_var (r_cons r_c r_nil))) (r_andV (r_op i_eq (r_fld r_var) (r_fld r_var)) (r_andV (r_op i_eq (r_fld r_var) (r_fld r_var)) (r_op i_eq (r_fld r_var) (r_fld r_var))))))
theorem rf_Bath___eq__ (Z : Zs) (row : Addr) : RowF (specR (F_Bath___eq__ Z)) row (F_Bath___eq__ Z row) := rowF _ row
theorem fn_Bath___eq__ {Γ : Ga} {Z : Zs} (B : Fx Γ Z) {f : Addr} {fd : FuncData} (F : Fun Γ.K "__eq__" "Bath.__eq__" s_Bath___eq__ f fd) : FnOk Γ.P Γ.w Γ.K Γ.mg Γ.base (L2.CX Γ.P Γ.w) 1 f fd ["self", "other"] (spD Γ.K 2 (specR (F_Bath___eq__ Z))) := by
  rw [Fe_Bath___eq__]
  exact fn_def F sc_Bath___eq__ rfl (fun E => ds_Bath___eq__ B E) (fun row ds _ hp => fDef_ends (rs_Bath___eq__ Z row) hp)
theorem ok_Bath_len {Γ : Ga} {Z : Zs} (B : Fx Γ Z) {f : Addr} {fd : FuncData} (F : Fun Γ.K "__len__" "Bath.__len__" s_Bath___len__ f fd) (hfi : PySem.W.findIn Γ.K (.ref Z.Bath) "__len__" = some (some (.ref f))) (hfn : PySem.W.isFn Γ.K (.ref f) = true) (hb : Binds Γ.K fd ["self"] []) : LenOk Γ 1 Z.Bath (specR (F_Bath___len__ Z)) :=
  ⟨f, fd, _, fn_Bath___len__ B F, hfi, hfn, hb⟩
theorem ok_Bath_eq {Γ : Ga} {Z : Zs} (B : Fx Γ Z) {f : Addr} {fd : FuncData} (F : Fun Γ.K "__eq__" "Bath.__eq__" s_Bath___eq__ f fd) (c : EqCls Γ.K Z.Bath f) (hb : Binds Γ.K fd ["self", "other"] []) : EqOk Γ 1 Z.Bath (specR (F_Bath___eq__ Z)) :=
  ⟨f, fd, _, fn_Bath___eq__ B F, hb, c⟩
abbrev s_Bath_width : Stmt := inClass (top 38) 1
abbrev n_Bath_width : List Str := ["self"]
theorem sc_Bath_width : FnScope n_Bath_width ["self"] (defScope s_Bath_width) := ⟨rfl, rfl, rfl, by decide +kernel, rfl, by decide +kernel, by decide +kernel⟩
abbrev s_Bath_height : Stmt := inClass (top 38) 2
abbrev n_Bath_height : List Str := ["self"]
theorem sc_Bath_height : FnScope n_Bath_height ["self"] (defScope s_Bath_height) := ⟨rfl, rfl, rfl, by decide +kernel, rfl, by decide +kernel, by decide +kernel⟩
abbrev s_Bath_cells : Stmt := inClass (top 38) 3
abbrev n_Bath_cells : List Str := ["self"]
theorem sc_Bath_cells : FnScope n_Bath_cells ["self"] (defScope s_Bath_cells) := ⟨rfl, rfl, rfl, by decide +kernel, rfl, by decide +kernel, by decide +kernel⟩
theorem ok_Bath_width {Γ : Ga} {Z : Zs} (B : Fx Γ Z) {p f : Addr} {fd : FuncData} (F : Fun Γ.K "width" "Bath.width" s_Bath_width f fd) (pr : PropOf Γ.K Z.Bath "width" p f) (hb : Binds Γ.K fd ["self"] []) : PropOk Γ 1 Z.Bath "width" "column_count" := by
  rcases F.ex with ⟨oc, od, kV, doc, pm, an, cdv, ct, osl, rfl, lk, hcd⟩
  exact ⟨p, f, _, _, fn_getter lk hcd sc_Bath_width rfl rfl B.cls_Bath B.na_Bath_column_count, B.cls_Bath, pr, hb⟩
theorem ok_Bath_height {Γ : Ga} {Z : Zs} (B : Fx Γ Z) {p f : Addr} {fd : FuncData} (F : Fun Γ.K "height" "Bath.height" s_Bath_height f fd) (pr : PropOf Γ.K Z.Bath "height" p f) (hb : Binds Γ.K fd ["self"] []) : PropOk Γ 1 Z.Bath "height" "row_count" := by
  rcases F.ex with ⟨oc, od, kV, doc, pm, an, cdv, ct, osl, rfl, lk, hcd⟩
  exact ⟨p, f, _, _, fn_getter lk hcd sc_Bath_height rfl rfl B.cls_Bath B.na_Bath_row_count, B.cls_Bath, pr, hb⟩
theorem ok_Bath_cells {Γ : Ga} {Z : Zs} (B : Fx Γ Z) {p f : Addr} {fd : FuncData} (F : Fun Γ.K "cells" "Bath.cells" s_Bath_cells f fd) (pr : PropOf Γ.K Z.Bath "cells" p f) (hb : Binds Γ.K fd ["self"] []) : PropOk Γ 1 Z.Bath "cells" "signs" := by
  rcases F.ex with ⟨oc, od, kV, doc, pm, an, cdv, ct, osl, rfl, lk, hcd⟩
  exact ⟨p, f, _, _, fn_getter lk hcd sc_Bath_cells rfl rfl B.cls_Bath B.na_Bath_signs, B.cls_Bath, pr, hb⟩
end K53
end

section
set_option Elab.async false
set_option linter.all false
set_option maxRecDepth 100000
set_option maxHeartbeats 5000000
namespace K53
open PySem L2 DL PyProof.Rows
/-! ### drawing -/
@[irreducible] def F__law_taken (Z : Zs) (row : Addr) : Fn := fun ds => match ds with
  | [.ref a, .int m] => if a = row ∧ 0 < m ∧ m < 1000000000000000 then .any (fun d => ∃ k : Int, d = .int k ∧ 0 ≤ k ∧ k < m) .ret else .stuck
  | _ => .stuck
theorem taken_eq {Z : Zs} {row : Addr} {m : Int} (h0 : 0 < m) (h1 : m < 1000000000000000) : F__law_taken Z row [.ref row, .int m] = .any (fun d => ∃ k : Int, d = .int k ∧ 0 ≤ k ∧ k < m) .ret := by
  unfold F__law_taken
  exact if_pos ⟨rfl, h0, h1⟩
theorem rf__law_taken (Z : Zs) (row : Addr) : RowF (S__law_taken Z) row (F__law_taken Z row) := ⟨fun ds h => by
  have h2 := h
  unfold F__law_taken at h2
  split at h2
  · rename_i a m
    by_cases c : a = row ∧ 0 < m ∧ m < 1000000000000000
    · obtain ⟨rfl, c1, c2⟩ := c
      rw [taken_eq c1 c2]
      refine ⟨⟨m, rfl, c1, c2⟩, fun d hd => ?_, fun x hx => hx.elim⟩
      obtain ⟨m', k, e, rfl, k0, k1⟩ := hd
      cases e
      exact ⟨_, ⟨k, rfl, k0, k1⟩, rfl⟩
    · rw [if_neg c] at h2
      exact h2.elim
  · exact h2.elim⟩
theorem nx_Bath___len__ (Z : Zs) (row : Addr) : noX (F_Bath___len__ Z row) := by
  rw [Fe_Bath___len__]
  exact nx_def (nx_ret (nx_cb (nx_cons (nx_fld nx_var) nx_nil)))
theorem nx_Bath___eq__ (Z : Zs) (row : Addr) : noX (F_Bath___eq__ Z row) := by
  rw [Fe_Bath___eq__]
  exact nx_def (nx_ret (nx_andV (nx_cb (nx_cons nx_var (nx_cons nx_c nx_nil))) (nx_andV (nx_op (nx_fld nx_var) (nx_fld nx_var)) (nx_andV (nx_op (nx_fld nx_var) (nx_fld nx_var)) (nx_op (nx_fld nx_var) (nx_fld nx_var))))))
abbrev s_done : Stmt := top 39
abbrev n_done : List Str := ["bath", "recipe", "signs", "papers", "paper"]
theorem sc_done : FnScope n_done ["bath", "recipe"] (defScope s_done) := ⟨rfl, rfl, rfl, by decide +kernel, rfl, by decide +kernel, by decide +kernel⟩
def T_done (Z : Zs) (row : Addr) : TDS := (TSeq (TDrop (TCall row (specR (F_check_recipe Z)) 3 (TCons (TProp Z.Bath (Str.ofString "column_count") (TV 0)) (TCons (TProp Z.Bath (Str.ofString "row_count") (TV 0)) (TCons (TV 1) TNil))))) (TSeq (TAsgG (TCall row (specR (F_things_done Z)) 5 (TCons (TProp Z.Bath (Str.ofString "column_count") (TV 0)) (TCons (TProp Z.Bath (Str.ofString "row_count") (TV 0)) (TCons (TCB gListS (TCons (TProp Z.Bath (Str.ofString "signs") (TV 0)) TNil)) (TCons (TV 1) (TCons (TCall row (specR (F_new_signs Z)) 1 (TCons (TV 1) TNil)) TNil)))))) (GTup 2 (GsCons (GName 2) (GsCons (GName 3) GsNil)))) (TRet (TTup (TCons (TCall row (specR (F_Bath___init__ Z)) 3 (TCons (TProp Z.Bath (Str.ofString "column_count") (TV 0)) (TCons (TProp Z.Bath (Str.ofString "row_count") (TV 0)) (TCons (TJoin (TC (.str [])) (TV 2)) TNil)))) (TCons (TOfL (TLc (TItems (TV 3) lstOf) (GName 4) TYes (TJoin (TC (.str [])) (TV 4)) [4])) TNil))))))
def U_done (Z : Zs) (row : Addr) : FS := (fSeq (fDrop (fCall (F_check_recipe Z row) 3 (fCons (fFld Z.Bath (Str.ofString "column_count") (fVar 0)) (fCons (fFld Z.Bath (Str.ofString "row_count") (fVar 0)) (fCons (fVar 1) fNil))))) (fSeq (fAsg (fCall (F_things_done Z row) 5 (fCons (fFld Z.Bath (Str.ofString "column_count") (fVar 0)) (fCons (fFld Z.Bath (Str.ofString "row_count") (fVar 0)) (fCons (fCB oListS (fCons (fFld Z.Bath (Str.ofString "signs") (fVar 0)) fNil)) (fCons (fVar 1) (fCons (fCall (F_new_signs Z row) 1 (fCons (fVar 1) fNil)) fNil)))))) (hTup (hCons (hName 2) (hCons (hName 3) hNil)))) (fRet (fTup (fCons (fCall (F_Bath___init__ Z row) 3 (fCons (fFld Z.Bath (Str.ofString "column_count") (fVar 0)) (fCons (fFld Z.Bath (Str.ofString "row_count") (fVar 0)) (fCons (fJoin (fC (.str [])) (fVar 2)) fNil)))) (fCons (fOfL (fLc (fItems (fVar 3) lstOf) (hName 4) fYes (fJoin (fC (.str [])) (fVar 4)) [4])) fNil))))))
@[irreducible] def F_done (Z : Zs) (row : Addr) : Fn := fDef 5 (U_done Z row)
theorem Fe_done (Z : Zs) : F_done Z = fun row => fDef 5 (U_done Z row) := by
  funext row
  unfold F_done
  rfl
theorem ds_done {Γ : Ga} {Z : Zs} (B : Fx Γ Z) (F_check_recipe : DefOk Γ 4 "check_recipe" 3 (specR (F_check_recipe Z))) (F_things_done : DefOk Γ 4 "things_done" 5 (specR (F_things_done Z))) (F_new_signs : DefOk Γ 2 "new_signs" 1 (specR (F_new_signs Z))) (F_Bath___init__ : MakeOk Γ 4 "Bath" Z.Bath 3 (specR (F_Bath___init__ Z))) (F_Bath_height : PropOk Γ 1 Z.Bath "height" "row_count") (F_Bath_width : PropOk Γ 1 Z.Bath "width" "column_count") (F_Bath_cells : PropOk Γ 1 Z.Bath "cells" "signs") (E : XR) : DSs (gaOf Γ 5 n_done s_done E) (defBody s_done) (T_done Z E.row) :=
  (ds_cons (ds_expr (de_call F_check_recipe.at (Nat.le_of_ble_eq_true rfl) (by rfl) (da_cons (de_prop F_Bath_width.at (Nat.le_of_ble_eq_true rfl) (de_var 0)) (da_cons (de_prop F_Bath_height.at (Nat.le_of_ble_eq_true rfl) (de_var 0)) (da_cons (de_var 1) da_nil))))) (ds_cons (ds_asg (de_call F_things_done.at (Nat.le_of_ble_eq_true rfl) (by rfl) (da_cons (de_prop F_Bath_width.at (Nat.le_of_ble_eq_true rfl) (de_var 0)) (da_cons (de_prop F_Bath_height.at (Nat.le_of_ble_eq_true rfl) (de_var 0)) (da_cons (de_listS (de_prop F_Bath_cells.at (Nat.le_of_ble_eq_true rfl) (de_var 0)) (by rfl) B.b_list) (da_cons (de_var 1) (da_cons (de_call F_new_signs.at (Nat.le_of_ble_eq_true rfl) (by rfl) (da_cons (de_var 1) da_nil)) da_nil)))))) (dg_tup (dgs_cons (dg_name 2 sc_done.nd) (dgs_cons (dg_name 3 sc_done.nd) dgs_nil)))) (ds_one (ds_ret (de_tup (da_cons (de_make F_Bath___init__.at (Nat.le_of_ble_eq_true rfl) (by rfl) (da_cons (de_prop F_Bath_width.at (Nat.le_of_ble_eq_true rfl) (de_var 0)) (da_cons (de_prop F_Bath_height.at (Nat.le_of_ble_eq_true rfl) (de_var 0)) (da_cons (de_join (de_str []) (de_var 2)) da_nil)))) (da_cons (de_ofL (dl_lc [(Str.ofString "paper", 4)] sc_done.nd (by kernel_rfl) (di_list (de_var 3)) (dg_name 4 sc_done.nd) dts_nil (de_join (de_str []) (de_var 4)))) da_nil)))))))
theorem rs_done (Z : Zs) (row : Addr) : RS (U_done Z row) (T_done Z row) :=
  (r_seq (r_drop (r_callS (rf_check_recipe Z row) (r_cons (r_prop r_var) (r_cons (r_prop r_var) (r_cons r_var r_nil))))) (r_seq (r_asg (r_callS (rf_things_done Z row) (r_cons (r_prop r_var) (r_cons (r_prop r_var) (r_cons (r_cb i_listS (r_cons (r_prop r_var) r_nil)) (r_cons r_var (r_cons (r_callS (rf_new_signs Z row) (r_cons r_var r_nil)) r_nil)))))) (rg_tup (rgs_cons rg_name (rgs_cons rg_name rgs_nil)) (lenG_cons (lenG_cons lenG_nil)))) (r_ret (r_tup (r_cons (r_callS (rowF (F_Bath___init__ Z) row) (r_cons (r_prop r_var) (r_cons (r_prop r_var) (r_cons (r_join r_c r_var) r_nil)))) (r_cons (r_ofL (r_lc (r_items r_var) rg_name r_yes (r_join r_c r_var))) r_nil))))))
theorem rf_done (Z : Zs) (row : Addr) : RowF (specR (F_done Z)) row (F_done Z row) := rowF _ row
theorem ok_done {Γ : Ga} {Z : Zs} (B : Fx Γ Z) (F_check_recipe : DefOk Γ 4 "check_recipe" 3 (specR (F_check_recipe Z))) (F_things_done : DefOk Γ 4 "things_done" 5 (specR (F_things_done Z))) (F_new_signs : DefOk Γ 2 "new_signs" 1 (specR (F_new_signs Z))) (F_Bath___init__ : MakeOk Γ 4 "Bath" Z.Bath 3 (specR (F_Bath___init__ Z))) (F_Bath_height : PropOk Γ 1 Z.Bath "height" "row_count") (F_Bath_width : PropOk Γ 1 Z.Bath "width" "column_count") (F_Bath_cells : PropOk Γ 1 Z.Bath "cells" "signs") {f : Addr} {fd : FuncData} (F : Fun Γ.K "done" "done" s_done f fd) (hm : Γ.mg "done" = some (.ref f)) (hb : Binds Γ.K fd ["bath", "recipe"] []) : DefOk Γ 6 "done" 2 (specR (F_done Z)) := by
  rw [Fe_done]
  exact fdef_ok F sc_done rfl (fun E => ds_done B F_check_recipe F_things_done F_new_signs F_Bath___init__ F_Bath_height F_Bath_width F_Bath_cells E) (rs_done Z) hm hb
abbrev s_times_in_turn : Stmt := top 46
abbrev n_times_in_turn : List Str := ["bath", "strides", "cell", "sign", "row", "column", "signs", "turn"]
theorem sc_times_in_turn : FnScope n_times_in_turn ["bath", "strides", "cell", "sign"] (defScope s_times_in_turn) := ⟨rfl, rfl, rfl, by decide +kernel, rfl, by decide +kernel, by decide +kernel⟩
def T_times_in_turn (Z : Zs) (row : Addr) : TDS := (TSeq (TIf (TNot (TTest (TCall row (specR (F_are_strides Z)) 2 (TCons (TV 1) (TCons (TProp Z.Bath (Str.ofString "row_count") (TV 0)) TNil))))) (fun _ _ _ => False) (fun De ρ _ => De.nx ρ)) (TSeq (TDrop (TCall row (specR (F_check_cell Z)) 2 (TCons (TV 2) (TCons (TLenI row (specR (F_Bath___len__ Z)) Z.Bath (TV 0)) TNil)))) (TSeq (TDrop (TCall row (specR (F_check_sign Z)) 1 (TCons (TV 3) TNil))) (TSeq (TAsgG (TCB gDivmod (TCons (TV 2) (TCons (TProp Z.Bath (Str.ofString "column_count") (TV 0)) TNil))) (GTup 2 (GsCons (GName 4) (GsCons (GName 5) GsNil)))) (TSeq (TSet 6 (TSl (TProp Z.Bath (Str.ofString "signs") (TV 0)) (TPt (TOp gMul0 (TV 4) (TProp Z.Bath (Str.ofString "column_count") (TV 0)))) (TPt (TOp gMul0 (TOp gAdd (TV 4) (TC (.int 1))) (TProp Z.Bath (Str.ofString "column_count") (TV 0)))))) (TRet (TOfL (TLc (TRng1 (TCons (TProp Z.Bath (Str.ofString "column_count") (TV 0)) TNil)) (GName 7) (TTest (TOp gEq (TOp gIx (TV 6) (TOp gMod (TOp DL.gSub (TV 5) (TOp gMul0 (TV 7) (TOp gIx (TV 1) (TV 4)))) (TProp Z.Bath (Str.ofString "column_count") (TV 0)))) (TV 3))) (TV 7) [7]))))))))
def U_times_in_turn (Z : Zs) (row : Addr) : FS := (fSeq (fIf (fNot (fTest (fCall (F_are_strides Z row) 2 (fCons (fVar 1) (fCons (fFld Z.Bath (Str.ofString "row_count") (fVar 0)) fNil))))) fStop fNext) (fSeq (fDrop (fCall (F_check_cell Z row) 2 (fCons (fVar 2) (fCons (fLenI (F_Bath___len__ Z row) Z.Bath (fVar 0)) fNil)))) (fSeq (fDrop (fCall (F_check_sign Z row) 1 (fCons (fVar 3) fNil))) (fSeq (fAsg (fCB oDivmod (fCons (fVar 2) (fCons (fFld Z.Bath (Str.ofString "column_count") (fVar 0)) fNil))) (hTup (hCons (hName 4) (hCons (hName 5) hNil)))) (fSeq (fSet 6 (fSl (fFld Z.Bath (Str.ofString "signs") (fVar 0)) (fPt (fOp oMul (fVar 4) (fFld Z.Bath (Str.ofString "column_count") (fVar 0)))) (fPt (fOp oMul (fOp oAdd (fVar 4) (fC (.int 1))) (fFld Z.Bath (Str.ofString "column_count") (fVar 0)))))) (fRet (fOfL (fLc (fRng1 (fCons (fFld Z.Bath (Str.ofString "column_count") (fVar 0)) fNil)) (hName 7) (fTest (fOp oEq (fOp oIx (fVar 6) (fOp oMod (fOp oSub (fVar 5) (fOp oMul (fVar 7) (fOp oIx (fVar 1) (fVar 4)))) (fFld Z.Bath (Str.ofString "column_count") (fVar 0)))) (fVar 3))) (fVar 7) [7]))))))))
@[irreducible] def F_times_in_turn (Z : Zs) (row : Addr) : Fn := fDef 8 (U_times_in_turn Z row)
theorem Fe_times_in_turn (Z : Zs) : F_times_in_turn Z = fun row => fDef 8 (U_times_in_turn Z row) := by
  funext row
  unfold F_times_in_turn
  rfl
theorem ds_times_in_turn {Γ : Ga} {Z : Zs} (B : Fx Γ Z) (F_are_strides : DefOk Γ 2 "are_strides" 2 (specR (F_are_strides Z))) (F_check_cell : DefOk Γ 3 "check_cell" 2 (specR (F_check_cell Z))) (F_Bath___len__ : LenOk Γ 1 Z.Bath (specR (F_Bath___len__ Z))) (F_check_sign : DefOk Γ 3 "check_sign" 1 (specR (F_check_sign Z))) (F_Bath_height : PropOk Γ 1 Z.Bath "height" "row_count") (F_Bath_width : PropOk Γ 1 Z.Bath "width" "column_count") (F_Bath_cells : PropOk Γ 1 Z.Bath "cells" "signs") (E : XR) : DSs (gaOf Γ 3 n_times_in_turn s_times_in_turn E) (defBody s_times_in_turn) (T_times_in_turn Z E.row) :=
  (ds_cons (ds_if (dt_not (dt_val (de_call F_are_strides.at (Nat.le_of_ble_eq_true rfl) (by rfl) (da_cons (de_var 1) (da_cons (de_prop F_Bath_height.at (Nat.le_of_ble_eq_true rfl) (de_var 0)) da_nil))))) (ds_one ds_never) ds_nil) (ds_cons (ds_expr (de_call F_check_cell.at (Nat.le_of_ble_eq_true rfl) (by rfl) (da_cons (de_var 2) (da_cons (de_lenI F_Bath___len__.at (Nat.le_of_ble_eq_true rfl) (de_var 0) (by rfl) B.b_len) da_nil)))) (ds_cons (ds_expr (de_call F_check_sign.at (Nat.le_of_ble_eq_true rfl) (by rfl) (da_cons (de_var 3) da_nil))) (ds_cons (ds_asg (de_divmod (da_cons (de_var 2) (da_cons (de_prop F_Bath_width.at (Nat.le_of_ble_eq_true rfl) (de_var 0)) da_nil)) (by rfl) B.b_divmod) (dg_tup (dgs_cons (dg_name 4 sc_times_in_turn.nd) (dgs_cons (dg_name 5 sc_times_in_turn.nd) dgs_nil)))) (ds_cons (ds_set 6 (de_sl (de_prop F_Bath_cells.at (Nat.le_of_ble_eq_true rfl) (de_var 0)) (do_some (de_mul0 (de_var 4) (de_prop F_Bath_width.at (Nat.le_of_ble_eq_true rfl) (de_var 0)))) (do_some (de_mul0 (de_add (de_var 4) de_int) (de_prop F_Bath_width.at (Nat.le_of_ble_eq_true rfl) (de_var 0))))) sc_times_in_turn.nd) (ds_one (ds_ret (de_ofL (dl_lc [(Str.ofString "turn", 7)] sc_times_in_turn.nd (by kernel_rfl) (di_range1 (da_cons (de_prop F_Bath_width.at (Nat.le_of_ble_eq_true rfl) (de_var 0)) da_nil) (by rfl) B.b_range) (dg_name 7 sc_times_in_turn.nd) (dts_one (dt_eq (de_ix (de_var 6) (de_mod (de_sub (de_var 5) (de_mul0 (de_var 7) (de_ix (de_var 1) (de_var 4)))) (de_prop F_Bath_width.at (Nat.le_of_ble_eq_true rfl) (de_var 0)))) (de_var 3))) (de_var 7))))))))))
theorem rs_times_in_turn (Z : Zs) (row : Addr) : RS (U_times_in_turn Z row) (T_times_in_turn Z row) :=
  (r_seq (r_if (r_not (r_test (r_callS (rf_are_strides Z row) (r_cons r_var (r_cons (r_prop r_var) r_nil))))) r_stop r_next) (r_seq (r_drop (r_callS (rf_check_cell Z row) (r_cons r_var (r_cons (r_lenI (nx_Bath___len__ Z row) r_var) r_nil)))) (r_seq (r_drop (r_callS (rf_check_sign Z row) (r_cons r_var r_nil))) (r_seq (r_asg (r_cb i_divmod (r_cons r_var (r_cons (r_prop r_var) r_nil))) (rg_tup (rgs_cons rg_name (rgs_cons rg_name rgs_nil)) (lenG_cons (lenG_cons lenG_nil)))) (r_seq (r_set (r_sl (r_prop r_var) (r_pt (r_op i_mul r_var (r_prop r_var))) (r_pt (r_op i_mul (r_op i_add r_var r_c) (r_prop r_var))))) (r_ret (r_ofL (r_lc (r_rng1 (r_cons (r_prop r_var) r_nil)) rg_name (r_test (r_op i_eq (r_op i_ix r_var (r_op i_mod (r_op i_sub r_var (r_op i_mul r_var (r_op i_ix r_var r_var))) (r_prop r_var))) r_var)) r_var))))))))
theorem rf_times_in_turn (Z : Zs) (row : Addr) : RowF (specR (F_times_in_turn Z)) row (F_times_in_turn Z row) := rowF _ row
theorem ok_times_in_turn {Γ : Ga} {Z : Zs} (B : Fx Γ Z) (F_are_strides : DefOk Γ 2 "are_strides" 2 (specR (F_are_strides Z))) (F_check_cell : DefOk Γ 3 "check_cell" 2 (specR (F_check_cell Z))) (F_Bath___len__ : LenOk Γ 1 Z.Bath (specR (F_Bath___len__ Z))) (F_check_sign : DefOk Γ 3 "check_sign" 1 (specR (F_check_sign Z))) (F_Bath_height : PropOk Γ 1 Z.Bath "height" "row_count") (F_Bath_width : PropOk Γ 1 Z.Bath "width" "column_count") (F_Bath_cells : PropOk Γ 1 Z.Bath "cells" "signs") {f : Addr} {fd : FuncData} (F : Fun Γ.K "times_in_turn" "times_in_turn" s_times_in_turn f fd) (hm : Γ.mg "times_in_turn" = some (.ref f)) (hb : Binds Γ.K fd ["bath", "strides", "cell", "sign"] []) : DefOk Γ 4 "times_in_turn" 4 (specR (F_times_in_turn Z)) := by
  rw [Fe_times_in_turn]
  exact fdef_ok F sc_times_in_turn rfl (fun E => ds_times_in_turn B F_are_strides F_check_cell F_Bath___len__ F_check_sign F_Bath_height F_Bath_width F_Bath_cells E) (rs_times_in_turn Z) hm hb
abbrev s_seen_times : Stmt := top 47
abbrev n_seen_times : List Str := ["bath", "strides", "cell", "sign", "count", "turns", "rounds", "rest", "turn"]
theorem sc_seen_times : FnScope n_seen_times ["bath", "strides", "cell", "sign", "count"] (defScope s_seen_times) := ⟨rfl, rfl, rfl, by decide +kernel, rfl, by decide +kernel, by decide +kernel⟩
def T_seen_times (Z : Zs) (row : Addr) : TDS := (TSeq (TSet 5 (TCall row (specR (F_times_in_turn Z)) 4 (TCons (TV 0) (TCons (TV 1) (TCons (TV 2) (TCons (TV 3) TNil)))))) (TSeq (TDrop (TCall row (specR (F_check_number Z)) 2 (TCons (TV 4) (TCons (TC (.int (1000000000000000000))) TNil)))) (TSeq (TAsgG (TCB gDivmod (TCons (TV 4) (TCons (TProp Z.Bath (Str.ofString "column_count") (TV 0)) TNil))) (GTup 2 (GsCons (GName 6) (GsCons (GName 7) GsNil)))) (TRet (TOp gAdd (TOp gMul0 (TV 6) (TCB gLen (TCons (TV 5) TNil))) (TCB gLen (TCons (TOfL (TLc (TItems (TV 5) lstOf) (GName 8) (TTest (TOp gLt (TV 8) (TV 7))) (TV 8) [8])) TNil)))))))
def U_seen_times (Z : Zs) (row : Addr) : FS := (fSeq (fSet 5 (fCall (F_times_in_turn Z row) 4 (fCons (fVar 0) (fCons (fVar 1) (fCons (fVar 2) (fCons (fVar 3) fNil)))))) (fSeq (fDrop (fCall (F_check_number Z row) 2 (fCons (fVar 4) (fCons (fC (.int (1000000000000000000))) fNil)))) (fSeq (fAsg (fCB oDivmod (fCons (fVar 4) (fCons (fFld Z.Bath (Str.ofString "column_count") (fVar 0)) fNil))) (hTup (hCons (hName 6) (hCons (hName 7) hNil)))) (fRet (fOp oAdd (fOp oMul (fVar 6) (fCB oLen (fCons (fVar 5) fNil))) (fCB oLen (fCons (fOfL (fLc (fItems (fVar 5) lstOf) (hName 8) (fTest (fOp oLt (fVar 8) (fVar 7))) (fVar 8) [8])) fNil)))))))
@[irreducible] def F_seen_times (Z : Zs) (row : Addr) : Fn := fDef 9 (U_seen_times Z row)
theorem Fe_seen_times (Z : Zs) : F_seen_times Z = fun row => fDef 9 (U_seen_times Z row) := by
  funext row
  unfold F_seen_times
  rfl
theorem ds_seen_times {Γ : Ga} {Z : Zs} (B : Fx Γ Z) (F_times_in_turn : DefOk Γ 4 "times_in_turn" 4 (specR (F_times_in_turn Z))) (F_check_number : DefOk Γ 2 "check_number" 2 (specR (F_check_number Z))) (F_Bath_width : PropOk Γ 1 Z.Bath "width" "column_count") (E : XR) : DSs (gaOf Γ 4 n_seen_times s_seen_times E) (defBody s_seen_times) (T_seen_times Z E.row) :=
  (ds_cons (ds_set 5 (de_call F_times_in_turn.at (Nat.le_of_ble_eq_true rfl) (by rfl) (da_cons (de_var 0) (da_cons (de_var 1) (da_cons (de_var 2) (da_cons (de_var 3) da_nil))))) sc_seen_times.nd) (ds_cons (ds_expr (de_call F_check_number.at (Nat.le_of_ble_eq_true rfl) (by rfl) (da_cons (de_var 4) (da_cons (de_gc B.g_MOST_TIMES) da_nil)))) (ds_cons (ds_asg (de_divmod (da_cons (de_var 4) (da_cons (de_prop F_Bath_width.at (Nat.le_of_ble_eq_true rfl) (de_var 0)) da_nil)) (by rfl) B.b_divmod) (dg_tup (dgs_cons (dg_name 6 sc_seen_times.nd) (dgs_cons (dg_name 7 sc_seen_times.nd) dgs_nil)))) (ds_one (ds_ret (de_add (de_mul0 (de_var 6) (de_len (de_var 5) (by rfl) B.b_len)) (de_len (de_ofL (dl_lc [(Str.ofString "turn", 8)] sc_seen_times.nd (by kernel_rfl) (di_list (de_var 5)) (dg_name 8 sc_seen_times.nd) (dts_one (dt_lt (de_var 8) (de_var 7))) (de_var 8))) (by rfl) B.b_len)))))))
theorem rs_seen_times (Z : Zs) (row : Addr) : RS (U_seen_times Z row) (T_seen_times Z row) :=
  (r_seq (r_set (r_callS (rf_times_in_turn Z row) (r_cons r_var (r_cons r_var (r_cons r_var (r_cons r_var r_nil)))))) (r_seq (r_drop (r_callS (rf_check_number Z row) (r_cons r_var (r_cons r_c r_nil)))) (r_seq (r_asg (r_cb i_divmod (r_cons r_var (r_cons (r_prop r_var) r_nil))) (rg_tup (rgs_cons rg_name (rgs_cons rg_name rgs_nil)) (lenG_cons (lenG_cons lenG_nil)))) (r_ret (r_op i_add (r_op i_mul r_var (r_cb i_len (r_cons r_var r_nil))) (r_cb i_len (r_cons (r_ofL (r_lc (r_items r_var) rg_name (r_test (r_op i_lt r_var r_var)) r_var)) r_nil)))))))
theorem rf_seen_times (Z : Zs) (row : Addr) : RowF (specR (F_seen_times Z)) row (F_seen_times Z row) := rowF _ row
theorem ok_seen_times {Γ : Ga} {Z : Zs} (B : Fx Γ Z) (F_times_in_turn : DefOk Γ 4 "times_in_turn" 4 (specR (F_times_in_turn Z))) (F_check_number : DefOk Γ 2 "check_number" 2 (specR (F_check_number Z))) (F_Bath_width : PropOk Γ 1 Z.Bath "width" "column_count") {f : Addr} {fd : FuncData} (F : Fun Γ.K "seen_times" "seen_times" s_seen_times f fd) (hm : Γ.mg "seen_times" = some (.ref f)) (hb : Binds Γ.K fd ["bath", "strides", "cell", "sign", "count"] []) : DefOk Γ 5 "seen_times" 5 (specR (F_seen_times Z)) := by
  rw [Fe_seen_times]
  exact fdef_ok F sc_seen_times rfl (fun E => ds_seen_times B F_times_in_turn F_check_number F_Bath_width E) (rs_seen_times Z) hm hb
abbrev s_nth_seen : Stmt := top 48
abbrev n_nth_seen : List Str := ["bath", "strides", "cell", "sign", "number", "turns", "rounds", "rest"]
theorem sc_nth_seen : FnScope n_nth_seen ["bath", "strides", "cell", "sign", "number"] (defScope s_nth_seen) := ⟨rfl, rfl, rfl, by decide +kernel, rfl, by decide +kernel, by decide +kernel⟩
def T_nth_seen (Z : Zs) (row : Addr) : TDS := (TSeq (TSet 5 (TCall row (specR (F_times_in_turn Z)) 4 (TCons (TV 0) (TCons (TV 1) (TCons (TV 2) (TCons (TV 3) TNil)))))) (TSeq (TDrop (TCall row (specR (F_check_number Z)) 2 (TCons (TV 4) (TCons (TC (.int (1000000000000000))) TNil)))) (TSeq (TIf (TNot (TTru (TV 5))) (TRet (TC .non)) (fun De ρ _ => De.nx ρ)) (TSeq (TAsgG (TCB gDivmod (TCons (TV 4) (TCons (TCB gLen (TCons (TV 5) TNil)) TNil))) (GTup 2 (GsCons (GName 6) (GsCons (GName 7) GsNil)))) (TRet (TOp gAdd (TOp gMul0 (TV 6) (TProp Z.Bath (Str.ofString "column_count") (TV 0))) (TOp gIx (TV 5) (TV 7))))))))
def U_nth_seen (Z : Zs) (row : Addr) : FS := (fSeq (fSet 5 (fCall (F_times_in_turn Z row) 4 (fCons (fVar 0) (fCons (fVar 1) (fCons (fVar 2) (fCons (fVar 3) fNil)))))) (fSeq (fDrop (fCall (F_check_number Z row) 2 (fCons (fVar 4) (fCons (fC (.int (1000000000000000))) fNil)))) (fSeq (fIf (fNot (fTru (fVar 5))) (fRet (fC .non)) fNext) (fSeq (fAsg (fCB oDivmod (fCons (fVar 4) (fCons (fCB oLen (fCons (fVar 5) fNil)) fNil))) (hTup (hCons (hName 6) (hCons (hName 7) hNil)))) (fRet (fOp oAdd (fOp oMul (fVar 6) (fFld Z.Bath (Str.ofString "column_count") (fVar 0))) (fOp oIx (fVar 5) (fVar 7))))))))
@[irreducible] def F_nth_seen (Z : Zs) (row : Addr) : Fn := fDef 8 (U_nth_seen Z row)
theorem Fe_nth_seen (Z : Zs) : F_nth_seen Z = fun row => fDef 8 (U_nth_seen Z row) := by
  funext row
  unfold F_nth_seen
  rfl
theorem ds_nth_seen {Γ : Ga} {Z : Zs} (B : Fx Γ Z) (F_times_in_turn : DefOk Γ 4 "times_in_turn" 4 (specR (F_times_in_turn Z))) (F_check_number : DefOk Γ 2 "check_number" 2 (specR (F_check_number Z))) (F_Bath_width : PropOk Γ 1 Z.Bath "width" "column_count") (E : XR) : DSs (gaOf Γ 4 n_nth_seen s_nth_seen E) (defBody s_nth_seen) (T_nth_seen Z E.row) :=
  (ds_cons (ds_set 5 (de_call F_times_in_turn.at (Nat.le_of_ble_eq_true rfl) (by rfl) (da_cons (de_var 0) (da_cons (de_var 1) (da_cons (de_var 2) (da_cons (de_var 3) da_nil))))) sc_nth_seen.nd) (ds_cons (ds_expr (de_call F_check_number.at (Nat.le_of_ble_eq_true rfl) (by rfl) (da_cons (de_var 4) (da_cons (de_gc B.g_MOST_SEEN) da_nil)))) (ds_cons (ds_if (dt_not (dt_tru (de_var 5))) (ds_one (ds_ret de_non)) ds_nil) (ds_cons (ds_asg (de_divmod (da_cons (de_var 4) (da_cons (de_len (de_var 5) (by rfl) B.b_len) da_nil)) (by rfl) B.b_divmod) (dg_tup (dgs_cons (dg_name 6 sc_nth_seen.nd) (dgs_cons (dg_name 7 sc_nth_seen.nd) dgs_nil)))) (ds_one (ds_ret (de_add (de_mul0 (de_var 6) (de_prop F_Bath_width.at (Nat.le_of_ble_eq_true rfl) (de_var 0))) (de_ix (de_var 5) (de_var 7)))))))))
theorem rs_nth_seen (Z : Zs) (row : Addr) : RS (U_nth_seen Z row) (T_nth_seen Z row) :=
  (r_seq (r_set (r_callS (rf_times_in_turn Z row) (r_cons r_var (r_cons r_var (r_cons r_var (r_cons r_var r_nil)))))) (r_seq (r_drop (r_callS (rf_check_number Z row) (r_cons r_var (r_cons r_c r_nil)))) (r_seq (r_if (r_not (r_tru r_var)) (r_ret r_c) r_next) (r_seq (r_asg (r_cb i_divmod (r_cons r_var (r_cons (r_cb i_len (r_cons r_var r_nil)) r_nil))) (rg_tup (rgs_cons rg_name (rgs_cons rg_name rgs_nil)) (lenG_cons (lenG_cons lenG_nil)))) (r_ret (r_op i_add (r_op i_mul r_var (r_prop r_var)) (r_op i_ix r_var r_var)))))))
theorem rf_nth_seen (Z : Zs) (row : Addr) : RowF (specR (F_nth_seen Z)) row (F_nth_seen Z row) := rowF _ row
theorem ok_nth_seen {Γ : Ga} {Z : Zs} (B : Fx Γ Z) (F_times_in_turn : DefOk Γ 4 "times_in_turn" 4 (specR (F_times_in_turn Z))) (F_check_number : DefOk Γ 2 "check_number" 2 (specR (F_check_number Z))) (F_Bath_width : PropOk Γ 1 Z.Bath "width" "column_count") {f : Addr} {fd : FuncData} (F : Fun Γ.K "nth_seen" "nth_seen" s_nth_seen f fd) (hm : Γ.mg "nth_seen" = some (.ref f)) (hb : Binds Γ.K fd ["bath", "strides", "cell", "sign", "number"] []) : DefOk Γ 5 "nth_seen" 5 (specR (F_nth_seen Z)) := by
  rw [Fe_nth_seen]
  exact fdef_ok F sc_nth_seen rfl (fun E => ds_nth_seen B F_times_in_turn F_check_number F_Bath_width E) (rs_nth_seen Z) hm hb
abbrev s__law_bath : Stmt := top 51
abbrev n__law_bath : List Str := ["_law_row", "_law_most", "_law_width", "_law_height", "_law_cell"]
theorem sc__law_bath : FnScope n__law_bath ["_law_row", "_law_most"] (defScope s__law_bath) := ⟨rfl, rfl, rfl, by decide +kernel, rfl, by decide +kernel, by decide +kernel⟩
def T__law_bath (Z : Zs) (row : Addr) : TDS := (TSeq (TPar 2 3 (TCons (TOp gAdd (TC (.int 1)) (TCall row (S__law_taken Z) 2 (TCons (TV 0) (TCons (TC (.int 4)) TNil)))) (TCons (TOp gAdd (TC (.int 1)) (TCall row (S__law_taken Z) 2 (TCons (TV 0) (TCons (TV 1) TNil)))) TNil))) (TRet (TCall row (specR (F_Bath___init__ Z)) 3 (TCons (TV 2) (TCons (TV 3) (TCons (TJoin (TC (.str [])) (TOfL (TLc (TRng1 (TCons (TOp gMul0 (TV 2) (TV 3)) TNil)) (GName 4) TYes (TOp gIx (TC (.str [46, 97, 98, 99])) (TCall row (S__law_taken Z) 2 (TCons (TV 0) (TCons (TC (.int 4)) TNil)))) [4]))) TNil))))))
def U__law_bath (Z : Zs) (row : Addr) : FS := (fSeq (fPar 2 3 (fCons (fOp oAdd (fC (.int 1)) (fCall (F__law_taken Z row) 2 (fCons (fVar 0) (fCons (fC (.int 4)) fNil)))) (fCons (fOp oAdd (fC (.int 1)) (fCall (F__law_taken Z row) 2 (fCons (fVar 0) (fCons (fVar 1) fNil)))) fNil))) (fRet (fCall (F_Bath___init__ Z row) 3 (fCons (fVar 2) (fCons (fVar 3) (fCons (fJoin (fC (.str [])) (fOfL (fLc (fRng1 (fCons (fOp oMul (fVar 2) (fVar 3)) fNil)) (hName 4) fYes (fOp oIx (fC (.str [46, 97, 98, 99])) (fCall (F__law_taken Z row) 2 (fCons (fVar 0) (fCons (fC (.int 4)) fNil)))) [4]))) fNil))))))
@[irreducible] def F__law_bath (Z : Zs) (row : Addr) : Fn := fDef 5 (U__law_bath Z row)
theorem Fe__law_bath (Z : Zs) : F__law_bath Z = fun row => fDef 5 (U__law_bath Z row) := by
  funext row
  unfold F__law_bath
  rfl
theorem ds__law_bath {Γ : Ga} {Z : Zs} (B : Fx Γ Z) (F__law_taken : DefOk Γ 1 "_law_taken" 2 (S__law_taken Z)) (F_Bath___init__ : MakeOk Γ 4 "Bath" Z.Bath 3 (specR (F_Bath___init__ Z))) (E : XR) : DSs (gaOf Γ 5 n__law_bath s__law_bath E) (defBody s__law_bath) (T__law_bath Z E.row) :=
  (ds_cons (ds_par 2 3 (da_cons (de_add de_int (de_call F__law_taken.at (Nat.le_of_ble_eq_true rfl) (by rfl) (da_cons (de_var 0) (da_cons de_int da_nil)))) (da_cons (de_add de_int (de_call F__law_taken.at (Nat.le_of_ble_eq_true rfl) (by rfl) (da_cons (de_var 0) (da_cons (de_var 1) da_nil)))) da_nil)) sc__law_bath.nd (hw := by intro env h; cases env; cases h; rfl)) (ds_one (ds_ret (de_make F_Bath___init__.at (Nat.le_of_ble_eq_true rfl) (by rfl) (da_cons (de_var 2) (da_cons (de_var 3) (da_cons (de_join (de_str []) (de_ofL (dl_lc [(Str.ofString "_law_cell", 4)] sc__law_bath.nd (by kernel_rfl) (di_range1 (da_cons (de_mul0 (de_var 2) (de_var 3)) da_nil) (by rfl) B.b_range) (dg_name 4 sc__law_bath.nd) dts_nil (de_ix (de_str [46, 97, 98, 99]) (de_call F__law_taken.at (Nat.le_of_ble_eq_true rfl) (by rfl) (da_cons (de_var 0) (da_cons de_int da_nil))))))) da_nil)))))))
theorem rs__law_bath (Z : Zs) (row : Addr) : RS (U__law_bath Z row) (T__law_bath Z row) :=
  (r_seq (r_par (r_cons (r_op i_add r_c (r_callS (rf__law_taken Z row) (r_cons r_var (r_cons r_c r_nil)))) (r_cons (r_op i_add r_c (r_callS (rf__law_taken Z row) (r_cons r_var (r_cons r_var r_nil)))) r_nil))) (r_ret (r_callS (rowF (F_Bath___init__ Z) row) (r_cons r_var (r_cons r_var (r_cons (r_join r_c (r_ofL (r_lc (r_rng1 (r_cons (r_op i_mul r_var r_var) r_nil)) rg_name r_yes (r_op i_ix r_c (r_callS (rf__law_taken Z row) (r_cons r_var (r_cons r_c r_nil))))))) r_nil))))))
theorem rf__law_bath (Z : Zs) (row : Addr) : RowF (specR (F__law_bath Z)) row (F__law_bath Z row) := rowF _ row
theorem ok__law_bath {Γ : Ga} {Z : Zs} (B : Fx Γ Z) (F__law_taken : DefOk Γ 1 "_law_taken" 2 (S__law_taken Z)) (F_Bath___init__ : MakeOk Γ 4 "Bath" Z.Bath 3 (specR (F_Bath___init__ Z))) {f : Addr} {fd : FuncData} (F : Fun Γ.K "_law_bath" "_law_bath" s__law_bath f fd) (hm : Γ.mg "_law_bath" = some (.ref f)) (hb : Binds Γ.K fd ["_law_row", "_law_most"] []) : DefOk Γ 6 "_law_bath" 2 (specR (F__law_bath Z)) := by
  rw [Fe__law_bath]
  exact fdef_ok F sc__law_bath rfl (fun E => ds__law_bath B F__law_taken F_Bath___init__ E) (rs__law_bath Z) hm hb
abbrev s__law_strides : Stmt := top 52
abbrev n__law_strides : List Str := ["_law_row", "_law_count", "_law_k"]
theorem sc__law_strides : FnScope n__law_strides ["_law_row", "_law_count"] (defScope s__law_strides) := ⟨rfl, rfl, rfl, by decide +kernel, rfl, by decide +kernel, by decide +kernel⟩
def T__law_strides (Z : Zs) (row : Addr) : TDS := (TRet (TCB gTuple (TCons (TOfL (TLc (TRng1 (TCons (TV 1) TNil)) (GName 2) TYes (TOp DL.gSub (TCall row (S__law_taken Z) 2 (TCons (TV 0) (TCons (TC (.int 19)) TNil))) (TC (.int 9))) [2])) TNil)))
def U__law_strides (Z : Zs) (row : Addr) : FS := (fRet (fCB oTuple (fCons (fOfL (fLc (fRng1 (fCons (fVar 1) fNil)) (hName 2) fYes (fOp oSub (fCall (F__law_taken Z row) 2 (fCons (fVar 0) (fCons (fC (.int 19)) fNil))) (fC (.int 9))) [2])) fNil)))
@[irreducible] def F__law_strides (Z : Zs) (row : Addr) : Fn := fDef 3 (U__law_strides Z row)
theorem Fe__law_strides (Z : Zs) : F__law_strides Z = fun row => fDef 3 (U__law_strides Z row) := by
  funext row
  unfold F__law_strides
  rfl
theorem ds__law_strides {Γ : Ga} {Z : Zs} (B : Fx Γ Z) (F__law_taken : DefOk Γ 1 "_law_taken" 2 (S__law_taken Z)) (E : XR) : DSs (gaOf Γ 1 n__law_strides s__law_strides E) (defBody s__law_strides) (T__law_strides Z E.row) :=
  (ds_one (ds_ret (de_tuple (de_ofL (dl_lc [(Str.ofString "_law_k", 2)] sc__law_strides.nd (by kernel_rfl) (di_range1 (da_cons (de_var 1) da_nil) (by rfl) B.b_range) (dg_name 2 sc__law_strides.nd) dts_nil (de_sub (de_call F__law_taken.at (Nat.le_of_ble_eq_true rfl) (by rfl) (da_cons (de_var 0) (da_cons de_int da_nil))) de_int))) (by rfl) B.b_tuple)))
theorem rs__law_strides (Z : Zs) (row : Addr) : RS (U__law_strides Z row) (T__law_strides Z row) :=
  (r_ret (r_cb i_tuple (r_cons (r_ofL (r_lc (r_rng1 (r_cons r_var r_nil)) rg_name r_yes (r_op i_sub (r_callS (rf__law_taken Z row) (r_cons r_var (r_cons r_c r_nil))) r_c))) r_nil)))
theorem rf__law_strides (Z : Zs) (row : Addr) : RowF (specR (F__law_strides Z)) row (F__law_strides Z row) := rowF _ row
theorem ok__law_strides {Γ : Ga} {Z : Zs} (B : Fx Γ Z) (F__law_taken : DefOk Γ 1 "_law_taken" 2 (S__law_taken Z)) {f : Addr} {fd : FuncData} (F : Fun Γ.K "_law_strides" "_law_strides" s__law_strides f fd) (hm : Γ.mg "_law_strides" = some (.ref f)) (hb : Binds Γ.K fd ["_law_row", "_law_count"] []) : DefOk Γ 2 "_law_strides" 2 (specR (F__law_strides Z)) := by
  rw [Fe__law_strides]
  exact fdef_ok F sc__law_strides rfl (fun E => ds__law_strides B F__law_taken E) (rs__law_strides Z) hm hb
abbrev s__law_is_still : Stmt := top 53
abbrev n__law_is_still : List Str := ["_law_bath_here", "_law_cell", "_law_far", "_law_still", "_law_sign"]
theorem sc__law_is_still : FnScope n__law_is_still ["_law_bath_here", "_law_cell", "_law_far"] (defScope s__law_is_still) := ⟨rfl, rfl, rfl, by decide +kernel, rfl, by decide +kernel, by decide +kernel⟩
def T__law_is_still (Z : Zs) (row : Addr) : TDS := (TSeq (TSet 3 (TOp gMulT (TTup (TCons (TC (.int 0)) TNil)) (TProp Z.Bath (Str.ofString "row_count") (TV 0)))) (TSeq (TSet 4 (TOp gIx (TProp Z.Bath (Str.ofString "signs") (TV 0)) (TV 1))) (TSeq (TIf (TOr (TTest (TOp gNe (TCall row (specR (F_seen_times Z)) 5 (TCons (TV 0) (TCons (TV 3) (TCons (TV 1) (TCons (TV 4) (TCons (TV 2) TNil)))))) (TV 2))) (TTest (TOp gNe (TCall row (specR (F_nth_seen Z)) 5 (TCons (TV 0) (TCons (TV 3) (TCons (TV 1) (TCons (TV 4) (TCons (TC (.int 5)) TNil)))))) (TC (.int 5))))) (TRet (TC (.bl false))) (fun De ρ _ => De.nx ρ)) (TRet (TC (.bl true))))))
def U__law_is_still (Z : Zs) (row : Addr) : FS := (fSeq (fSet 3 (fOp oMulT (fTup (fCons (fC (.int 0)) fNil)) (fFld Z.Bath (Str.ofString "row_count") (fVar 0)))) (fSeq (fSet 4 (fOp oIx (fFld Z.Bath (Str.ofString "signs") (fVar 0)) (fVar 1))) (fSeq (fIf (fOr (fTest (fOp oNe (fCall (F_seen_times Z row) 5 (fCons (fVar 0) (fCons (fVar 3) (fCons (fVar 1) (fCons (fVar 4) (fCons (fVar 2) fNil)))))) (fVar 2))) (fTest (fOp oNe (fCall (F_nth_seen Z row) 5 (fCons (fVar 0) (fCons (fVar 3) (fCons (fVar 1) (fCons (fVar 4) (fCons (fC (.int 5)) fNil)))))) (fC (.int 5))))) (fRet (fC (.bl false))) fNext) (fRet (fC (.bl true))))))
@[irreducible] def F__law_is_still (Z : Zs) (row : Addr) : Fn := fDef 5 (U__law_is_still Z row)
theorem Fe__law_is_still (Z : Zs) : F__law_is_still Z = fun row => fDef 5 (U__law_is_still Z row) := by
  funext row
  unfold F__law_is_still
  rfl
theorem ds__law_is_still {Γ : Ga} {Z : Zs} (B : Fx Γ Z) (F_seen_times : DefOk Γ 5 "seen_times" 5 (specR (F_seen_times Z))) (F_nth_seen : DefOk Γ 5 "nth_seen" 5 (specR (F_nth_seen Z))) (F_Bath_height : PropOk Γ 1 Z.Bath "height" "row_count") (F_Bath_cells : PropOk Γ 1 Z.Bath "cells" "signs") (E : XR) : DSs (gaOf Γ 5 n__law_is_still s__law_is_still E) (defBody s__law_is_still) (T__law_is_still Z E.row) :=
  (ds_cons (ds_set 3 (de_mulT (de_tup (da_cons de_int da_nil)) (de_prop F_Bath_height.at (Nat.le_of_ble_eq_true rfl) (de_var 0))) sc__law_is_still.nd) (ds_cons (ds_set 4 (de_ix (de_prop F_Bath_cells.at (Nat.le_of_ble_eq_true rfl) (de_var 0)) (de_var 1)) sc__law_is_still.nd) (ds_cons (ds_if (dt_w (dw_or (dt_ne (de_call F_seen_times.at (Nat.le_of_ble_eq_true rfl) (by rfl) (da_cons (de_var 0) (da_cons (de_var 3) (da_cons (de_var 1) (da_cons (de_var 4) (da_cons (de_var 2) da_nil)))))) (de_var 2)) (dw_or1 (dt_ne (de_call F_nth_seen.at (Nat.le_of_ble_eq_true rfl) (by rfl) (da_cons (de_var 0) (da_cons (de_var 3) (da_cons (de_var 1) (da_cons (de_var 4) (da_cons de_int da_nil)))))) de_int)))) (ds_one (ds_ret de_bl)) ds_nil) (ds_one (ds_ret de_bl)))))
theorem rs__law_is_still (Z : Zs) (row : Addr) : RS (U__law_is_still Z row) (T__law_is_still Z row) :=
  (r_seq (r_set (r_op i_mulT (r_tup (r_cons r_c r_nil)) (r_prop r_var))) (r_seq (r_set (r_op i_ix (r_prop r_var) r_var)) (r_seq (r_if (r_or (r_test (r_op i_ne (r_callS (rf_seen_times Z row) (r_cons r_var (r_cons r_var (r_cons r_var (r_cons r_var (r_cons r_var r_nil)))))) r_var)) (r_test (r_op i_ne (r_callS (rf_nth_seen Z row) (r_cons r_var (r_cons r_var (r_cons r_var (r_cons r_var (r_cons r_c r_nil)))))) r_c))) (r_ret r_c) r_next) (r_ret r_c))))
theorem rf__law_is_still (Z : Zs) (row : Addr) : RowF (specR (F__law_is_still Z)) row (F__law_is_still Z row) := rowF _ row
theorem ok__law_is_still {Γ : Ga} {Z : Zs} (B : Fx Γ Z) (F_seen_times : DefOk Γ 5 "seen_times" 5 (specR (F_seen_times Z))) (F_nth_seen : DefOk Γ 5 "nth_seen" 5 (specR (F_nth_seen Z))) (F_Bath_height : PropOk Γ 1 Z.Bath "height" "row_count") (F_Bath_cells : PropOk Γ 1 Z.Bath "cells" "signs") {f : Addr} {fd : FuncData} (F : Fun Γ.K "_law_is_still" "_law_is_still" s__law_is_still f fd) (hm : Γ.mg "_law_is_still" = some (.ref f)) (hb : Binds Γ.K fd ["_law_bath_here", "_law_cell", "_law_far"] []) : DefOk Γ 6 "_law_is_still" 3 (specR (F__law_is_still Z)) := by
  rw [Fe__law_is_still]
  exact fdef_ok F sc__law_is_still rfl (fun E => ds__law_is_still B F_seen_times F_nth_seen F_Bath_height F_Bath_cells E) (rs__law_is_still Z) hm hb
end K53
end

section
set_option Elab.async false
set_option linter.all false
set_option maxRecDepth 100000
set_option maxHeartbeats 5000000
namespace K53
open PySem L2 DL PyProof.Rows
noncomputable section
/-! ### texts in turn, till one comes again -/
def whileAt (st : Stmt) (i : Nat) : Stmt := match st with
  | .While _ b _ _ => b.getD i (.Pass ⟨0, 0, 0, 0⟩)
  | _ => .Pass ⟨0, 0, 0, 0⟩
def bd (Z : Zs) (w h : Int) (cs : List Nat) : D := .ins Z.Bath (bathF (.int w) (.int h) (.str cs))
/-- what comes of a recipe, again and again, till a text comes again -/
structure Orb (Z : Zs) (row : Addr) (w h : Int) (rec : D) (f : Nat → List Nat) (n b : Nat) : Prop where
  made : ∀ i, i < n → F_Bath___init__ Z row [.int w, .int h, .str (f i)] = .ret (bd Z w h (f i))
  dn : ∀ i, i < n → ∃ ps, F_done Z row [bd Z w h (f i), rec] = .ret (.tup [bd Z w h (f (i + 1)), ps])
  inj : ∀ i j, i < n → j < n → f i = f j → i = j
  back : f n = f b
  bn : b < n
  big : n ≤ 1000
def S_texts_and_begin (Z : Zs) : DL.Spec where
  pre := fun row ds => ∃ w h rec f n b, ds = [bd Z w h (f 0), rec] ∧ Orb Z row w h rec f n b
  post := fun row ds r => ∃ w h rec f n b, ds = [bd Z w h (f 0), rec] ∧ Orb Z row w h rec f n b ∧ r = .tup [.lst ((List.range n).map fun i => .str (f i)), .int (b : Nat)]
abbrev s_texts_and_begin : Stmt := top 42
abbrev n_texts_and_begin : List Str := ["bath", "recipe", "times", "cells"]
theorem sc_texts_and_begin : FnScope n_texts_and_begin ["bath", "recipe"] (defScope s_texts_and_begin) := ⟨rfl, rfl, rfl, by decide +kernel, rfl, by decide +kernel, by decide +kernel⟩
def T_tb1 (Z : Zs) (row : Addr) : TDS := (TSet 3 (TProp Z.Bath (Str.ofString "signs") (TV 0)))
def U_tb1 (Z : Zs) (row : Addr) : FS := (fSet 3 (fFld Z.Bath (Str.ofString "signs") (fVar 0)))
theorem ds_tb1 {Γ : Ga} {Z : Zs} (B : Fx Γ Z) (F_Bath_cells : PropOk Γ 1 Z.Bath "cells" "signs") (E : XR) : DS (gaOf Γ 7 n_texts_and_begin s_texts_and_begin E) (stAt s_texts_and_begin 1) (T_tb1 Z E.row) :=
  (ds_set 3 (de_prop F_Bath_cells.at (Nat.le_of_ble_eq_true rfl) (de_var 0)) sc_texts_and_begin.nd)
theorem rs_tb1 (Z : Zs) (row : Addr) : RS (U_tb1 Z row) (T_tb1 Z row) :=
  (r_set (r_prop r_var))
-- hyps of tb1: F_Bath_cells
def T_tb2 (Z : Zs) (row : Addr) : TDS := (TSet 3 (TProp Z.Bath (Str.ofString "signs") (TOp gIx (TCall row (specR (F_done Z)) 2 (TCons (TCall row (specR (F_Bath___init__ Z)) 3 (TCons (TProp Z.Bath (Str.ofString "column_count") (TV 0)) (TCons (TProp Z.Bath (Str.ofString "row_count") (TV 0)) (TCons (TV 3) TNil)))) (TCons (TV 1) TNil))) (TC (.int 0)))))
def U_tb2 (Z : Zs) (row : Addr) : FS := (fSet 3 (fFld Z.Bath (Str.ofString "signs") (fOp oIx (fCall (F_done Z row) 2 (fCons (fCall (F_Bath___init__ Z row) 3 (fCons (fFld Z.Bath (Str.ofString "column_count") (fVar 0)) (fCons (fFld Z.Bath (Str.ofString "row_count") (fVar 0)) (fCons (fVar 3) fNil)))) (fCons (fVar 1) fNil))) (fC (.int 0)))))
theorem ds_tb2 {Γ : Ga} {Z : Zs} (B : Fx Γ Z) (F_done : DefOk Γ 6 "done" 2 (specR (F_done Z))) (F_Bath___init__ : MakeOk Γ 4 "Bath" Z.Bath 3 (specR (F_Bath___init__ Z))) (F_Bath_height : PropOk Γ 1 Z.Bath "height" "row_count") (F_Bath_width : PropOk Γ 1 Z.Bath "width" "column_count") (F_Bath_cells : PropOk Γ 1 Z.Bath "cells" "signs") (E : XR) : DS (gaOf Γ 7 n_texts_and_begin s_texts_and_begin E) (whileAt (stAt s_texts_and_begin 2) 1) (T_tb2 Z E.row) :=
  (ds_set 3 (de_prop F_Bath_cells.at (Nat.le_of_ble_eq_true rfl) (de_ix (de_call F_done.at (Nat.le_of_ble_eq_true rfl) (by rfl) (da_cons (de_make F_Bath___init__.at (Nat.le_of_ble_eq_true rfl) (by rfl) (da_cons (de_prop F_Bath_width.at (Nat.le_of_ble_eq_true rfl) (de_var 0)) (da_cons (de_prop F_Bath_height.at (Nat.le_of_ble_eq_true rfl) (de_var 0)) (da_cons (de_var 3) da_nil)))) (da_cons (de_var 1) da_nil))) de_int)) sc_texts_and_begin.nd)
theorem rs_tb2 (Z : Zs) (row : Addr) : RS (U_tb2 Z row) (T_tb2 Z row) :=
  (r_set (r_prop (r_op i_ix (r_callS (rf_done Z row) (r_cons (r_callS (rowF (F_Bath___init__ Z) row) (r_cons (r_prop r_var) (r_cons (r_prop r_var) (r_cons r_var r_nil)))) (r_cons r_var r_nil))) r_c)))
-- hyps of tb2: F_done F_Bath___init__ F_Bath_height F_Bath_width F_Bath_cells
theorem len_dict {X : Cx} : CallR X (.builtin "len") (fun xs H Q => ∃ (a : Addr) (kvs : List (Key × V)), xs = [.ref a] ∧ Rd H a (.dK kvs) ∧ Q (.int (kvs.length : Nat)) H) := by
  intro pins s σ H xs us Q I r h
  obtain ⟨a, kvs, e, rd, q⟩ := h
  subst e
  cases r with
  | cons r rr =>
    cases rr
    cases r
    exact d_len I rd fun t s' J => ⟨.int (kvs.length : Nat), H, J, ⟨t, rfl⟩, q⟩
/-- the dict of the texts so far -/
def dkv (f : Nat → List Nat) (i : Nat) : List (Key × V) := (List.range i).map fun j => (.inr (S (f j)), .int (j : Nat))
theorem dkv_len {f : Nat → List Nat} {i : Nat} : (dkv f i).length = i := by
  exact (List.length_map ..).trans List.length_range
theorem S_inj {a b : List Nat} (h : S a = S b) : a = b := by
  have : a.toArray = b.toArray := by injection h
  simpa using this
theorem dkv_get {f : Nat → List Nat} {n i k : Nat} (hi : i ≤ n) (inj : ∀ i j, i < n → j < n → f i = f j → i = j) (hk : k < i) : valV (dkv f i) (.inr (S (f k))) = some (.int (k : Nat)) := by
  have go : ∀ (m b : Nat), b + m = i → b ≤ k → valV ((List.range' b m).map fun j => ((.inr (S (f j)), .int (j : Nat)) : Key × V)) (.inr (S (f k))) = some (.int (k : Nat)) := by
    intro m
    induction m with
    | zero => intro b e hb; omega
    | succ m ih =>
      intro b e hb
      rw [List.range'_succ, List.map_cons]
      by_cases c : b = k
      · subst c
        exact valV_pos rfl
      · rw [valV_neg (fun z => c (inj b k (by omega) (by omega) (S_inj (Sum.inr.inj z))))]
        exact ih (b + 1) (by omega) (by omega)
  unfold dkv
  rw [List.range_eq_range']
  exact go i 0 (by omega) (Nat.zero_le _)
theorem dkv_none {f : Nat → List Nat} {i : Nat} {cs : List Nat} (h : ∀ j, j < i → f j ≠ cs) : valV (dkv f i) (.inr (S cs)) = none := by
  have go : ∀ (m b : Nat), b + m ≤ i → valV ((List.range' b m).map fun j => ((.inr (S (f j)), .int (j : Nat)) : Key × V)) (.inr (S cs)) = none := by
    intro m
    induction m with
    | zero => intro b e; rfl
    | succ m ih =>
      intro b e
      rw [List.range'_succ, List.map_cons, valV_neg (fun z => h b (by omega) (S_inj (Sum.inr.inj z)))]
      exact ih (b + 1) (by omega)
  unfold dkv
  rw [List.range_eq_range']
  exact go i 0 (by omega)
theorem dkv_put {f : Nat → List Nat} {i : Nat} (h : ∀ j, j < i → f j ≠ f i) : putK (dkv f i) (.inr (S (f i))) (.int (i : Nat)) = dkv f (i + 1) := by
  have no : ((dkv f i).any fun kv => decide (kv.1 = .inr (S (f i)))) = false := by
    rw [List.any_eq_false]
    intro kv hkv
    obtain ⟨j, hj, rfl⟩ := List.mem_map.mp hkv
    simp only [decide_eq_true_eq]
    intro z
    exact h j (List.mem_range.mp hj) (S_inj (Sum.inr.inj z))
  unfold putK
  rw [no, if_neg Bool.false_ne_true]
  unfold dkv
  rw [List.range_succ, List.map_append]
  rfl
theorem texts_rps {K : PySem.W.Frag} {N : Addr → Prop} {H : Hp} {f : Nat → List Nat} {n : Nat} : Rps N K H ((List.range n).map fun i => .str (f i)) ((dkv f n).map fun kv => kV kv.1) := by
  unfold dkv
  rw [List.map_map]
  induction List.range n with
  | nil => exact .nil
  | cons x xs ih => exact .cons (.str _) ih
theorem ok_texts_and_begin {Γ : Ga} {Z : Zs} (B : Fx Γ Z) (F_done : DefOk Γ 6 "done" 2 (specR (F_done Z))) (F_Bath___init__ : MakeOk Γ 4 "Bath" Z.Bath 3 (specR (F_Bath___init__ Z))) (F_Bath_height : PropOk Γ 1 Z.Bath "height" "row_count") (F_Bath_width : PropOk Γ 1 Z.Bath "width" "column_count") (F_Bath_cells : PropOk Γ 1 Z.Bath "cells" "signs")
    {f : Addr} {fd : FuncData} (F : Fun Γ.K "texts_and_begin" "texts_and_begin" s_texts_and_begin f fd) (hm : Γ.mg "texts_and_begin" = some (.ref f)) (hb : Binds Γ.K fd ["bath", "recipe"] []) : DefOk Γ 8 "texts_and_begin" 2 (S_texts_and_begin Z) := by
  refine ⟨f, fd, _, ?_, hm, F.kp, hb⟩
  refine F.okX sc_texts_and_begin (fun vs H Q E h => by rw [spD_len h]; rfl) (fun cdv A outer s H vs Q E hr h => ?_)
  obtain ⟨M, ds, hi, r, hl, ⟨w, hh, rec, fu, n, b, rfl, O⟩, hq, hx⟩ := h
  obtain ⟨t1, p1, sim1⟩ := ds_tb1 B F_Bath_cells ⟨E, M.row, M.tabs, none⟩
  obtain ⟨t2, p2, sim2⟩ := ds_tb2 B F_done F_Bath___init__ F_Bath_height F_Bath_width F_Bath_cells ⟨E, M.row, M.tabs, none⟩
  have ok := okx_def (Γ := Γ) (k := 7) (N := n_texts_and_begin) (st := s_texts_and_begin) (qual := "texts_and_begin") (f := f) (cdv := cdv) (A := A) (outer := outer) (s := s) (H := H) (row := M.row) (Tb := M.tabs) (Ex := E) hr
  have hu := ok.roomW.units
  refine ⟨_, pss_cons (ps_set (i := 2) sc_texts_and_begin.nd rfl (Or.inl rfl) pe_dnewK) (pss_cons (p1 _ ok) (pss_cons (ps_while ok.pass (pt_cmp (pc_dnotin (by omega) (pvR 3) (pvR 2)) rfl) (pss_cons (ps_dput (by omega) (pvR 2) (pvR 3) (pe_callB len_dict rfl B.b_len (by decide +kernel) (pa_cons (pvR 2) pa_nil rfl) (by decide) (by decide) rfl rfl) rfl) (pss_one (p2 _ ok))))
    (pss_one (ps_ret (pe_tup (pa_cons (pe_callTy (call_listD (ok.calm rfl)) rfl B.b_list (by decide +kernel) (pa_cons (pvR 2) pa_nil rfl) (by decide) (by decide) rfl rfl) (pa_cons (pe_dget (by omega) (pvR 2) (pvR 3) (by intro _ _; rfl)) pa_nil rfl) rfl)))))), ?_⟩
  -- the slots
  cases r with
  | cons r0 rr =>
  rename_i v0 vs
  cases rr with
  | cons r1 rr =>
  rename_i v1 vs
  cases rr
  intro p hp
  have nd : ¬ M.dom p := fun z => M.nfree _ _ hi z hp
  let M' : Nat → Mt Γ.K := fun i => M.plusO p (.dK (dkv fu i)) nd trivial
  have lx : ∀ (i : Nat) (H0 : Hp), LinkX (M' i) H0 ⟨E, M.row, M.tabs, none⟩ XF := fun i H0 => ⟨⟨rfl, rfl, trivial⟩, fun _ _ _ _ z => z.elim⟩
  let en : Option DV → En := fun o => [some (.sh (bd Z w hh (fu 0))), some (.sh rec), some (.sh (.ref p)), o]
  have noown : ∀ (o : Option D) (σ : L2.St) (q : Addr), ¬ Own (en (o.map .sh)) σ q := fun o σ q ⟨j, es, h1, _⟩ => by
    cases o <;> match j, h1 with
      | 0, h1 => cases h1
      | 1, h1 => cases h1
      | 2, h1 => cases h1
      | 3, h1 => cases h1
      | j + 4, h1 => cases h1
  have H1in : M.inv (upd H p (.dK [])) := M.fresh _ _ _ hi hp
  have ex1 : Ex M H (upd H p (.dK [])) := Ex.new hp
  have old : ∀ {d : D} {v : V} {H' : Hp} {N : Addr → Prop}, Rp M.dom Γ.K H d v → Ex M H H' → (∀ c, N c → M.dom c ∨ c = p) → Rp N Γ.K H' d v := fun {d v H' N} r e hN => r.tr fun c o n z wt => ⟨fun y => (hN c y).elim n fun y => by (rw [y, hp] at z; cases z), e c o n z wt⟩
  have R1 : Rep (M' 0) (upd H p (.dK [])) (en none) [some v0, some v1, some (.ref p), none] (upd H p (.dK [])) := by
    refine ⟨⟨H1in, upd_same⟩, Ex.refl, rfl, fun j d e => ?_, fun j ds e => ?_, fun j k ds es q e => ?_⟩
    · match j, e with
      | 0, e => cases e; exact ⟨v0, rfl, old r0 ex1 fun c z => z.elim id fun z => (noown none _ c z).elim⟩
      | 1, e => cases e; exact ⟨v1, rfl, old r1 ex1 fun c z => z.elim id fun z => (noown none _ c z).elim⟩
      | 2, e => cases e; exact ⟨_, rfl, .ref p⟩
      | 3, e => cases e
      | j + 4, e => cases e
    · match j, e with
      | 0, e => cases e
      | 1, e => cases e
      | 2, e => cases e
      | 3, e => cases e
      | j + 4, e => cases e
    · match j, e with
      | 0, e => cases e
      | 1, e => cases e
      | 2, e => cases e
      | 3, e => cases e
      | j + 4, e => cases e
  -- the state at the loop's head
  let W : Nat → L2.St → Hp → Prop := fun i σ H' => Rep (M' i) H' (en (some (.sh (.str (fu i))))) σ H' ∧ Ex M H H'
  have enter : ∀ {i : Nat} {H0 H' : Hp} {σ : L2.St}, Rep (M' i) H0 (en (some (.sh (.str (fu i))))) σ H' → Ex M H H0 → W i σ H' := fun {i H0 H' σ} R e => by
    refine ⟨⟨R.inv, Ex.refl, R.len, R.sh, fun j ds h => ((noown (some (.str (fu i))) σ p ⟨j, ds, h, ?_⟩)).elim, R.dj⟩, fun c o n z wt => R.ex c o (fun y => y.elim n fun y => by (rw [y, hp] at z; cases z)) (e c o n z wt) wt⟩
    match j, h with
      | 0, h => cases h
      | 1, h => cases h
      | 2, h => cases h
      | 3, h => cases h
      | j + 4, h => cases h
  refine sim1 (M' 0) _ (en none) _ _ _ { nx := fun ρ => ρ = en (some (.sh (.str (fu 0)))), rt := fun _ => False, bk := fun _ => False, ct := fun _ => False } XF R1 (lx 0 _) ⟨fun ρ σ H2 R2 e => ?_, fun _ _ _ _ _ _ z => z.elim, fun _ _ _ _ z => z.elim, fun _ _ _ _ z => z.elim⟩ (rs_tb1 Z M.row _ _ _ ?_)
  rotate_left
  · show (U_tb1 Z M.row (en none)).all _ _
    have : U_tb1 Z M.row (en none) = .ret (.nx (en (some (.sh (.str (fu 0)))))) := by
      unfold U_tb1
      simp [en, fSet, fFld, oFld, fVar, bd, lks]
    rw [this]
    rfl
  subst e
  have W0 : W 0 σ H2 := enter R2 ex1
  have reads : ∀ {i : Nat} {σ : L2.St} {H' : Hp}, W i σ H' → σ[2]? = some (some (.ref p)) ∧ σ[3]? = some (some (.str (S (fu i)))) ∧ H' p = some (.dK (dkv fu i)) ∧ M.inv H' := fun {i σ H'} w => by
    obtain ⟨v2, e2, q2⟩ := w.1.sh 2 _ rfl
    obtain ⟨v3, e3, q3⟩ := w.1.sh 3 _ rfl
    cases q2
    cases q3
    exact ⟨e2, e3, w.1.inv.2, w.1.inv.1⟩
  refine ⟨fun m σ H' => ∃ i, i ≤ n ∧ m = n - i ∧ W i σ H', ⟨n, 0, Nat.zero_le _, rfl, W0⟩, ?_⟩
  rintro m σ H' ⟨i, le, rfl, wi⟩
  obtain ⟨s2, s3, at_, inv⟩ := reads wi
  rcases Nat.lt_or_ge i n with lt | ge
  · -- one more time
    have new : ∀ j, j < i → fu j ≠ fu i := fun j hj z => absurd (O.inj j i (by omega) lt z) (by omega)
    have g := DGet.k (k := .inr (S (fu i))) at_
    rw [dkv_none new] at g
    refine ⟨_, s3, _, s2, p, none, rfl, g, true, rfl, ?_⟩
    refine ite_t (c := true) rfl ?_
    refine ⟨fun σ' H'' => W (i + 1) σ' H'', fun σ' H'' w' => ⟨n - (i + 1), by omega, i + 1, by omega, rfl, w'⟩, ?_⟩
    have small : (dkv fu i).length < sizeLine := by
      rw [dkv_len]
      exact Nat.lt_of_lt_of_le (show i < 100000 by have := O.big; omega) (by decide)
    refine ⟨_, s2, p, dkv fu i, rfl, .inl at_, _, s2, _, s3, p, _, rfl, DPut.k (k := .inr (S (fu i))) at_ small, ?_⟩
    rw [dkv_len, dkv_put new]
    have inv4 : M.inv (upd H' p (.dK (dkv fu (i + 1)))) := M.other _ _ _ _ inv nd at_ trivial
    have ex4 : Ex M H (upd H' p (.dK (dkv fu (i + 1)))) := fun c o n z wt => by
      rw [upd_ne (fun y => by rw [y, hp] at z; cases z)]
      exact wi.2 c o n z wt
    have R4 : Rep (M' (i + 1)) (upd H' p (.dK (dkv fu (i + 1)))) (en (some (.sh (.str (fu i))))) σ (upd H' p (.dK (dkv fu (i + 1)))) := by
      refine ⟨⟨inv4, upd_same⟩, Ex.refl, wi.1.len, fun j d e => ?_, fun j ds e => ?_, wi.1.dj⟩
      · obtain ⟨v, e1, q⟩ := wi.1.sh j d e
        exact ⟨v, e1, q.tr fun c o n z wt => ⟨n, by rw [upd_ne (fun y => n (.inl (.inr y)))]; exact z⟩⟩
      · match j, e with
        | 0, e => cases e
        | 1, e => cases e
        | 2, e => cases e
        | 3, e => cases e
        | j + 4, e => cases e
    refine sim2 (M' (i + 1)) _ (en (some (.sh (.str (fu i))))) σ _ _ { nx := fun ρ => ρ = en (some (.sh (.str (fu (i + 1))))), rt := fun _ => False, bk := fun _ => False, ct := fun _ => False } XF R4 (lx (i + 1) _) ⟨fun ρ σ5 H5 R5 e => ?_, fun _ _ _ _ _ _ z => z.elim, fun _ _ _ _ z => z.elim, fun _ _ _ _ z => z.elim⟩ (rs_tb2 Z M.row _ _ _ ?_)
    · subst e
      exact enter R5 ex4
    · show (U_tb2 Z M.row (en _)).all _ _
      have mk := O.made i lt
      obtain ⟨ps, dn⟩ := O.dn i lt
      have ix : oIx (.tup [bd Z w hh (fu (i + 1)), ps]) (.int 0) = some (bd Z w hh (fu (i + 1))) := rfl
      have : U_tb2 Z M.row (en (some (.sh (.str (fu i))))) = .ret (.nx (en (some (.sh (.str (fu (i + 1))))))) := by
        unfold U_tb2
        unfold bd at mk dn ix
        simp [en, fSet, fFld, oFld, fVar, fOp, fCall, fCons, fNil, fC, bd, lkc, lkr, lks, Tm.chk, mk, dn, ix]
      rw [this]
      rfl
  · -- a text comes again
    obtain rfl : i = n := by omega
    have g := DGet.k (k := .inr (S (fu i))) at_
    have gv : valV (dkv fu i) (.inr (S (fu i))) = some (.int (b : Nat)) := by
      have := dkv_get (f := fu) (n := i) (i := i) (k := b) (Nat.le_refl _) O.inj O.bn
      rw [← O.back] at this
      exact this
    rw [gv] at g
    refine ⟨_, s3, _, s2, p, some (.int (b : Nat)), rfl, g, false, rfl, ?_⟩
    refine ite_f (c := false) rfl ?_
    refine ⟨_, s2, p, dkv fu i, rfl, .inl at_, fun l hl => ?_⟩
    have np : p ≠ l := fun y => by rw [← y, at_] at hl; cases hl
    have at2 : upd H' l (.lst ((dkv fu i).map fun kv => kV kv.1)) p = some (.dK (dkv fu i)) := by
      rw [upd_ne np]
      exact at_
    have g2 := DGet.k (k := .inr (S (fu i))) at2
    rw [gv] at g2
    refine ⟨_, s2, _, s3, p, .int (b : Nat), rfl, g2, by show 2 ≤ sizeLine; decide, fun q hq2 => ?_⟩
    have nl : ¬ M.dom l := fun z => M.nfree _ _ inv z hl
    have inv2 : M.inv (upd H' l (.lst ((dkv fu i).map fun kv => kV kv.1))) := M.fresh _ _ _ inv hl
    have nq : ¬ M.dom q := fun z => M.nfree _ _ inv2 z hq2
    have lq : l ≠ q := fun y => by rw [← y, upd_same] at hq2; cases hq2
    refine hq (.tup [.lst ((List.range i).map fun j => .str (fu j)), .int (b : Nat)]) _ _ ⟨_, _, _, fu, i, b, rfl, O, rfl⟩ (M.fresh _ _ _ inv2 hq2) (fun c o n z wt => ?_) (.tup (.inl ⟨nq, upd_same⟩) (.cons (.lst ⟨nl, by rw [upd_ne lq]; exact upd_same⟩ texts_rps) (.cons (.int _) .nil)))
    have h3 := wi.2 c o n z wt
    have cl : c ≠ l := fun y => by rw [y, hl] at h3; cases h3
    have cq : c ≠ q := fun y => by rw [← y, upd_ne cl, h3] at hq2; cases hq2
    rw [upd_ne cq, upd_ne cl]
    exact h3
open Classical in
@[irreducible] noncomputable def F_texts_and_begin (Z : Zs) (row : Addr) : Fn := fun ds => if (S_texts_and_begin Z).pre row ds then .any (fun d => (S_texts_and_begin Z).post row ds d) .ret else .stuck
theorem texts_eq {Z : Zs} {row : Addr} {ds : List D} (h : (S_texts_and_begin Z).pre row ds) : F_texts_and_begin Z row ds = .any (fun d => (S_texts_and_begin Z).post row ds d) .ret := by
  unfold F_texts_and_begin
  exact if_pos h
theorem rf_texts_and_begin (Z : Zs) (row : Addr) : RowF (S_texts_and_begin Z) row (F_texts_and_begin Z row) := ⟨fun ds h => by
  by_cases c : (S_texts_and_begin Z).pre row ds
  · rw [texts_eq c]
    exact ⟨c, fun d hd => ⟨d, hd, rfl⟩, fun x hx => hx.elim⟩
  · have e : F_texts_and_begin Z row ds = .stuck := by
      unfold F_texts_and_begin
      exact if_neg c
    rw [e] at h
    exact h.elim⟩
abbrev s_after_times : Stmt := top 43
abbrev n_after_times : List Str := ["bath", "recipe", "count", "texts", "begin"]
theorem sc_after_times : FnScope n_after_times ["bath", "recipe", "count"] (defScope s_after_times) := ⟨rfl, rfl, rfl, by decide +kernel, rfl, by decide +kernel, by decide +kernel⟩
def T_after_times (Z : Zs) (row : Addr) : TDS := (TSeq (TDrop (TCall row (specR (F_check_recipe Z)) 3 (TCons (TProp Z.Bath (Str.ofString "column_count") (TV 0)) (TCons (TProp Z.Bath (Str.ofString "row_count") (TV 0)) (TCons (TV 1) TNil))))) (TSeq (TDrop (TCall row (specR (F_check_number Z)) 2 (TCons (TV 2) (TCons (TC (.int (1000000000000000000))) TNil)))) (TSeq (TAsgG (TCall row (S_texts_and_begin Z) 2 (TCons (TV 0) (TCons (TV 1) TNil))) (GTup 2 (GsCons (GName 3) (GsCons (GName 4) GsNil)))) (TSeq (TIf (TTest (TOp gGe (TV 2) (TCB gLen (TCons (TV 3) TNil)))) (TSet 2 (TOp gAdd (TV 4) (TOp gMod (TOp DL.gSub (TV 2) (TV 4)) (TOp DL.gSub (TCB gLen (TCons (TV 3) TNil)) (TV 4))))) (fun De ρ _ => De.nx ρ)) (TRet (TCall row (specR (F_Bath___init__ Z)) 3 (TCons (TProp Z.Bath (Str.ofString "column_count") (TV 0)) (TCons (TProp Z.Bath (Str.ofString "row_count") (TV 0)) (TCons (TOp gIx (TV 3) (TV 2)) TNil)))))))))
def U_after_times (Z : Zs) (row : Addr) : FS := (fSeq (fDrop (fCall (F_check_recipe Z row) 3 (fCons (fFld Z.Bath (Str.ofString "column_count") (fVar 0)) (fCons (fFld Z.Bath (Str.ofString "row_count") (fVar 0)) (fCons (fVar 1) fNil))))) (fSeq (fDrop (fCall (F_check_number Z row) 2 (fCons (fVar 2) (fCons (fC (.int (1000000000000000000))) fNil)))) (fSeq (fAsg (fCall (F_texts_and_begin Z row) 2 (fCons (fVar 0) (fCons (fVar 1) fNil))) (hTup (hCons (hName 3) (hCons (hName 4) hNil)))) (fSeq (fIf (fTest (fOp oGe (fVar 2) (fCB oLen (fCons (fVar 3) fNil)))) (fSet 2 (fOp oAdd (fVar 4) (fOp oMod (fOp oSub (fVar 2) (fVar 4)) (fOp oSub (fCB oLen (fCons (fVar 3) fNil)) (fVar 4))))) fNext) (fRet (fCall (F_Bath___init__ Z row) 3 (fCons (fFld Z.Bath (Str.ofString "column_count") (fVar 0)) (fCons (fFld Z.Bath (Str.ofString "row_count") (fVar 0)) (fCons (fOp oIx (fVar 3) (fVar 2)) fNil)))))))))
@[irreducible] def F_after_times (Z : Zs) (row : Addr) : Fn := fDef 5 (U_after_times Z row)
theorem Fe_after_times (Z : Zs) : F_after_times Z = fun row => fDef 5 (U_after_times Z row) := by
  funext row
  unfold F_after_times
  rfl
theorem ds_after_times {Γ : Ga} {Z : Zs} (B : Fx Γ Z) (F_check_recipe : DefOk Γ 4 "check_recipe" 3 (specR (F_check_recipe Z))) (F_check_number : DefOk Γ 2 "check_number" 2 (specR (F_check_number Z))) (F_texts_and_begin : DefOk Γ 8 "texts_and_begin" 2 (S_texts_and_begin Z)) (F_Bath___init__ : MakeOk Γ 4 "Bath" Z.Bath 3 (specR (F_Bath___init__ Z))) (F_Bath_height : PropOk Γ 1 Z.Bath "height" "row_count") (F_Bath_width : PropOk Γ 1 Z.Bath "width" "column_count") (E : XR) : DSs (gaOf Γ 8 n_after_times s_after_times E) (defBody s_after_times) (T_after_times Z E.row) :=
  (ds_cons (ds_expr (de_call F_check_recipe.at (Nat.le_of_ble_eq_true rfl) (by rfl) (da_cons (de_prop F_Bath_width.at (Nat.le_of_ble_eq_true rfl) (de_var 0)) (da_cons (de_prop F_Bath_height.at (Nat.le_of_ble_eq_true rfl) (de_var 0)) (da_cons (de_var 1) da_nil))))) (ds_cons (ds_expr (de_call F_check_number.at (Nat.le_of_ble_eq_true rfl) (by rfl) (da_cons (de_var 2) (da_cons (de_gc B.g_MOST_TIMES) da_nil)))) (ds_cons (ds_asg (de_call F_texts_and_begin.at (Nat.le_of_ble_eq_true rfl) (by rfl) (da_cons (de_var 0) (da_cons (de_var 1) da_nil))) (dg_tup (dgs_cons (dg_name 3 sc_after_times.nd) (dgs_cons (dg_name 4 sc_after_times.nd) dgs_nil)))) (ds_cons (ds_if (dt_ge (de_var 2) (de_len (de_var 3) (by rfl) B.b_len)) (ds_one (ds_set 2 (de_add (de_var 4) (de_mod (de_sub (de_var 2) (de_var 4)) (de_sub (de_len (de_var 3) (by rfl) B.b_len) (de_var 4)))) sc_after_times.nd)) ds_nil) (ds_one (ds_ret (de_make F_Bath___init__.at (Nat.le_of_ble_eq_true rfl) (by rfl) (da_cons (de_prop F_Bath_width.at (Nat.le_of_ble_eq_true rfl) (de_var 0)) (da_cons (de_prop F_Bath_height.at (Nat.le_of_ble_eq_true rfl) (de_var 0)) (da_cons (de_ix (de_var 3) (de_var 2)) da_nil))))))))))
theorem rs_after_times (Z : Zs) (row : Addr) : RS (U_after_times Z row) (T_after_times Z row) :=
  (r_seq (r_drop (r_callS (rf_check_recipe Z row) (r_cons (r_prop r_var) (r_cons (r_prop r_var) (r_cons r_var r_nil))))) (r_seq (r_drop (r_callS (rf_check_number Z row) (r_cons r_var (r_cons r_c r_nil)))) (r_seq (r_asg (r_callS (rf_texts_and_begin Z row) (r_cons r_var (r_cons r_var r_nil))) (rg_tup (rgs_cons rg_name (rgs_cons rg_name rgs_nil)) (lenG_cons (lenG_cons lenG_nil)))) (r_seq (r_if (r_test (r_op i_ge r_var (r_cb i_len (r_cons r_var r_nil)))) (r_set (r_op i_add r_var (r_op i_mod (r_op i_sub r_var r_var) (r_op i_sub (r_cb i_len (r_cons r_var r_nil)) r_var)))) r_next) (r_ret (r_callS (rowF (F_Bath___init__ Z) row) (r_cons (r_prop r_var) (r_cons (r_prop r_var) (r_cons (r_op i_ix r_var r_var) r_nil)))))))))
theorem rf_after_times (Z : Zs) (row : Addr) : RowF (specR (F_after_times Z)) row (F_after_times Z row) := rowF _ row
theorem ok_after_times {Γ : Ga} {Z : Zs} (B : Fx Γ Z) (F_check_recipe : DefOk Γ 4 "check_recipe" 3 (specR (F_check_recipe Z))) (F_check_number : DefOk Γ 2 "check_number" 2 (specR (F_check_number Z))) (F_texts_and_begin : DefOk Γ 8 "texts_and_begin" 2 (S_texts_and_begin Z)) (F_Bath___init__ : MakeOk Γ 4 "Bath" Z.Bath 3 (specR (F_Bath___init__ Z))) (F_Bath_height : PropOk Γ 1 Z.Bath "height" "row_count") (F_Bath_width : PropOk Γ 1 Z.Bath "width" "column_count") {f : Addr} {fd : FuncData} (F : Fun Γ.K "after_times" "after_times" s_after_times f fd) (hm : Γ.mg "after_times" = some (.ref f)) (hb : Binds Γ.K fd ["bath", "recipe", "count"] []) : DefOk Γ 9 "after_times" 3 (specR (F_after_times Z)) := by
  rw [Fe_after_times]
  exact fdef_ok F sc_after_times rfl (fun E => ds_after_times B F_check_recipe F_check_number F_texts_and_begin F_Bath___init__ F_Bath_height F_Bath_width E) (rs_after_times Z) hm hb
abbrev s_law : Stmt := top 54
abbrev n_law : List Str := ["_law_script", "_law_row", "_law_turn", "_law_bath_here", "_law_strides_here", "_law_cell", "_law_far", "_law_recipe", "_law_more", "_law_later", "_law_total", "_law_sign", "_law_count", "_law_both", "_law_number", "_law_when"]
theorem sc_law : FnScope n_law ["_law_script"] (defScope s_law) := ⟨rfl, rfl, rfl, by decide +kernel, rfl, by decide +kernel, by decide +kernel⟩
def T_law (Z : Zs) (row : Addr) : TDS := (TSeq (TFor (TRng1 (TCons (TC (.int 4)) TNil)) (GName 2) (TSeq (TSet 3 (TCall row (specR (F__law_bath Z)) 2 (TCons (TV 1) (TCons (TC (.int 3)) TNil)))) (TSeq (TPar3 4 5 6 (TCons (TCall row (specR (F__law_strides Z)) 2 (TCons (TV 1) (TCons (TProp Z.Bath (Str.ofString "row_count") (TV 3)) TNil))) (TCons (TCall row (S__law_taken Z) 2 (TCons (TV 1) (TCons (TLenI row (specR (F_Bath___len__ Z)) Z.Bath (TV 3)) TNil))) (TCons (TOp gAdd (TOp gPow (TC (.int 10)) (TC (.int 17))) (TCall row (S__law_taken Z) 2 (TCons (TV 1) (TCons (TC (.int 999)) TNil)))) TNil)))) (TSeq (TPar 7 8 (TCons (TTup (TCons (TTup (TCons (TC (.str [114, 97, 107, 101])) (TCons (TV 4) TNil))) TNil)) (TCons (TCall row (S__law_taken Z) 2 (TCons (TV 1) (TCons (TC (.int 50)) TNil))) TNil))) (TSeq (TSet 9 (TCall row (specR (F_after_times Z)) 3 (TCons (TV 3) (TCons (TV 7) (TCons (TV 6) TNil))))) (TSeq (TSet 10 (TC (.int 0))) (TSeq (TFor (TItems (TC (.str [46, 97, 98, 99])) strOf) (GName 11) (TSeq (TSet 12 (TCall row (specR (F_seen_times Z)) 5 (TCons (TV 3) (TCons (TV 4) (TCons (TV 5) (TCons (TV 11) (TCons (TV 6) TNil))))))) (TSeq (TSet 10 (TOp gAdd (TV 10) (TV 12))) (TSeq (TSet 13 (TCall row (specR (F_seen_times Z)) 5 (TCons (TV 3) (TCons (TV 4) (TCons (TV 5) (TCons (TV 11) (TCons (TOp gAdd (TV 6) (TV 8)) TNil))))))) (TSeq (TIf (TTest (TOp gNe (TOp DL.gSub (TV 13) (TV 12)) (TCall row (specR (F_seen_times Z)) 5 (TCons (TV 9) (TCons (TV 4) (TCons (TV 5) (TCons (TV 11) (TCons (TV 8) TNil)))))))) (TRet (TC (.bl false))) (fun De ρ _ => De.nx ρ)) (TSeq (TIf (TTest (TOp gNe (TOp DL.gSub (TCall row (specR (F_seen_times Z)) 5 (TCons (TV 3) (TCons (TV 4) (TCons (TV 5) (TCons (TV 11) (TCons (TOp gAdd (TV 6) (TC (.int 1))) TNil)))))) (TV 12)) (TCB gIntB (TCons (TOp gEq (TOp gIx (TProp Z.Bath (Str.ofString "signs") (TV 9)) (TV 5)) (TV 11)) TNil)))) (TRet (TC (.bl false))) (fun De ρ _ => De.nx ρ)) (TSeq (TSet 14 (TCall row (S__law_taken Z) 2 (TCons (TV 1) (TCons (TOp gPow (TC (.int 10)) (TC (.int 12))) TNil)))) (TSeq (TSet 15 (TCall row (specR (F_nth_seen Z)) 5 (TCons (TV 3) (TCons (TV 4) (TCons (TV 5) (TCons (TV 11) (TCons (TV 14) TNil))))))) (TSeq (TIf (TTest (TOp gNe (TOp gIsN (TV 15) (TC .non)) (TOp gEq (TV 12) (TC (.int 0))))) (TRet (TC (.bl false))) (fun De ρ _ => De.nx ρ)) (TIf (TTest (TOp gNotN (TV 15) (TC .non))) (TSeq (TIf (TTest (TOp gNe (TCall row (specR (F_seen_times Z)) 5 (TCons (TV 3) (TCons (TV 4) (TCons (TV 5) (TCons (TV 11) (TCons (TV 15) TNil)))))) (TV 14))) (TRet (TC (.bl false))) (fun De ρ _ => De.nx ρ)) (TSeq (TIf (TTest (TOp gNe (TCall row (specR (F_seen_times Z)) 5 (TCons (TV 3) (TCons (TV 4) (TCons (TV 5) (TCons (TV 11) (TCons (TOp gAdd (TV 15) (TC (.int 1))) TNil)))))) (TOp gAdd (TV 14) (TC (.int 1))))) (TRet (TC (.bl false))) (fun De ρ _ => De.nx ρ)) (TSeq (TIf (TTest (TOp gNe (TOp gIx (TProp Z.Bath (Str.ofString "signs") (TCall row (specR (F_after_times Z)) 3 (TCons (TV 3) (TCons (TV 7) (TCons (TV 15) TNil))))) (TV 5)) (TV 11))) (TRet (TC (.bl false))) (fun De ρ _ => De.nx ρ)) (TIf (TNot (TTest (TChain gLt gLe (TV 15) (TCall row (specR (F_nth_seen Z)) 5 (TCons (TV 3) (TCons (TV 4) (TCons (TV 5) (TCons (TV 11) (TCons (TOp gAdd (TV 14) (TC (.int 1))) TNil)))))) (TOp gAdd (TV 15) (TProp Z.Bath (Str.ofString "column_count") (TV 3)))))) (TRet (TC (.bl false))) (fun De ρ _ => De.nx ρ))))) (fun De ρ _ => De.nx ρ))))))))))) (TSeq (TIf (TOr (TTest (TOp gNe (TV 10) (TV 6))) (TTest (TOp gNe (TCall row (specR (F_seen_times Z)) 5 (TCons (TV 3) (TCons (TV 4) (TCons (TV 5) (TCons (TC (.str [122])) (TCons (TV 6) TNil)))))) (TC (.int 0))))) (TRet (TC (.bl false))) (fun De ρ _ => De.nx ρ)) (TIf (TNot (TTest (TCall row (specR (F__law_is_still Z)) 3 (TCons (TV 3) (TCons (TV 5) (TCons (TV 6) TNil)))))) (TRet (TC (.bl false))) (fun De ρ _ => De.nx ρ)))))))))) (TRet (TC (.bl true))))
def U_law (Z : Zs) (row : Addr) : FS := (fSeq (fFor (fRng1 (fCons (fC (.int 4)) fNil)) (hName 2) (fSeq (fSet 3 (fCall (F__law_bath Z row) 2 (fCons (fVar 1) (fCons (fC (.int 3)) fNil)))) (fSeq (fPar3 4 5 6 (fCons (fCall (F__law_strides Z row) 2 (fCons (fVar 1) (fCons (fFld Z.Bath (Str.ofString "row_count") (fVar 3)) fNil))) (fCons (fCall (F__law_taken Z row) 2 (fCons (fVar 1) (fCons (fLenI (F_Bath___len__ Z row) Z.Bath (fVar 3)) fNil))) (fCons (fOp oAdd (fOp oPow (fC (.int 10)) (fC (.int 17))) (fCall (F__law_taken Z row) 2 (fCons (fVar 1) (fCons (fC (.int 999)) fNil)))) fNil)))) (fSeq (fPar 7 8 (fCons (fTup (fCons (fTup (fCons (fC (.str [114, 97, 107, 101])) (fCons (fVar 4) fNil))) fNil)) (fCons (fCall (F__law_taken Z row) 2 (fCons (fVar 1) (fCons (fC (.int 50)) fNil))) fNil))) (fSeq (fSet 9 (fCall (F_after_times Z row) 3 (fCons (fVar 3) (fCons (fVar 7) (fCons (fVar 6) fNil))))) (fSeq (fSet 10 (fC (.int 0))) (fSeq (fFor (fItems (fC (.str [46, 97, 98, 99])) strOf) (hName 11) (fSeq (fSet 12 (fCall (F_seen_times Z row) 5 (fCons (fVar 3) (fCons (fVar 4) (fCons (fVar 5) (fCons (fVar 11) (fCons (fVar 6) fNil))))))) (fSeq (fSet 10 (fOp oAdd (fVar 10) (fVar 12))) (fSeq (fSet 13 (fCall (F_seen_times Z row) 5 (fCons (fVar 3) (fCons (fVar 4) (fCons (fVar 5) (fCons (fVar 11) (fCons (fOp oAdd (fVar 6) (fVar 8)) fNil))))))) (fSeq (fIf (fTest (fOp oNe (fOp oSub (fVar 13) (fVar 12)) (fCall (F_seen_times Z row) 5 (fCons (fVar 9) (fCons (fVar 4) (fCons (fVar 5) (fCons (fVar 11) (fCons (fVar 8) fNil)))))))) (fRet (fC (.bl false))) fNext) (fSeq (fIf (fTest (fOp oNe (fOp oSub (fCall (F_seen_times Z row) 5 (fCons (fVar 3) (fCons (fVar 4) (fCons (fVar 5) (fCons (fVar 11) (fCons (fOp oAdd (fVar 6) (fC (.int 1))) fNil)))))) (fVar 12)) (fCB oIntB (fCons (fOp oEq (fOp oIx (fFld Z.Bath (Str.ofString "signs") (fVar 9)) (fVar 5)) (fVar 11)) fNil)))) (fRet (fC (.bl false))) fNext) (fSeq (fSet 14 (fCall (F__law_taken Z row) 2 (fCons (fVar 1) (fCons (fOp oPow (fC (.int 10)) (fC (.int 12))) fNil)))) (fSeq (fSet 15 (fCall (F_nth_seen Z row) 5 (fCons (fVar 3) (fCons (fVar 4) (fCons (fVar 5) (fCons (fVar 11) (fCons (fVar 14) fNil))))))) (fSeq (fIf (fTest (fOp oNe (fOp oIsN (fVar 15) (fC .non)) (fOp oEq (fVar 12) (fC (.int 0))))) (fRet (fC (.bl false))) fNext) (fIf (fTest (fOp oNotN (fVar 15) (fC .non))) (fSeq (fIf (fTest (fOp oNe (fCall (F_seen_times Z row) 5 (fCons (fVar 3) (fCons (fVar 4) (fCons (fVar 5) (fCons (fVar 11) (fCons (fVar 15) fNil)))))) (fVar 14))) (fRet (fC (.bl false))) fNext) (fSeq (fIf (fTest (fOp oNe (fCall (F_seen_times Z row) 5 (fCons (fVar 3) (fCons (fVar 4) (fCons (fVar 5) (fCons (fVar 11) (fCons (fOp oAdd (fVar 15) (fC (.int 1))) fNil)))))) (fOp oAdd (fVar 14) (fC (.int 1))))) (fRet (fC (.bl false))) fNext) (fSeq (fIf (fTest (fOp oNe (fOp oIx (fFld Z.Bath (Str.ofString "signs") (fCall (F_after_times Z row) 3 (fCons (fVar 3) (fCons (fVar 7) (fCons (fVar 15) fNil))))) (fVar 5)) (fVar 11))) (fRet (fC (.bl false))) fNext) (fIf (fNot (fTest (fChain oLt oLe (fVar 15) (fCall (F_nth_seen Z row) 5 (fCons (fVar 3) (fCons (fVar 4) (fCons (fVar 5) (fCons (fVar 11) (fCons (fOp oAdd (fVar 14) (fC (.int 1))) fNil)))))) (fOp oAdd (fVar 15) (fFld Z.Bath (Str.ofString "column_count") (fVar 3)))))) (fRet (fC (.bl false))) fNext)))) fNext)))))))))) (fSeq (fIf (fOr (fTest (fOp oNe (fVar 10) (fVar 6))) (fTest (fOp oNe (fCall (F_seen_times Z row) 5 (fCons (fVar 3) (fCons (fVar 4) (fCons (fVar 5) (fCons (fC (.str [122])) (fCons (fVar 6) fNil)))))) (fC (.int 0))))) (fRet (fC (.bl false))) fNext) (fIf (fNot (fTest (fCall (F__law_is_still Z row) 3 (fCons (fVar 3) (fCons (fVar 5) (fCons (fVar 6) fNil)))))) (fRet (fC (.bl false))) fNext))))))))) (fRet (fC (.bl true))))
@[irreducible] def F_law (Z : Zs) (row : Addr) : Fn := fDef 16 (U_law Z row)
theorem Fe_law (Z : Zs) : F_law Z = fun row => fDef 16 (U_law Z row) := by
  funext row
  unfold F_law
  rfl
theorem ds_law {Γ : Ga} {Z : Zs} (B : Fx Γ Z) (F__law_bath : DefOk Γ 6 "_law_bath" 2 (specR (F__law_bath Z))) (F__law_taken : DefOk Γ 1 "_law_taken" 2 (S__law_taken Z)) (F_Bath___len__ : LenOk Γ 1 Z.Bath (specR (F_Bath___len__ Z))) (F__law_strides : DefOk Γ 2 "_law_strides" 2 (specR (F__law_strides Z))) (F_after_times : DefOk Γ 9 "after_times" 3 (specR (F_after_times Z))) (F_seen_times : DefOk Γ 5 "seen_times" 5 (specR (F_seen_times Z))) (F_nth_seen : DefOk Γ 5 "nth_seen" 5 (specR (F_nth_seen Z))) (F__law_is_still : DefOk Γ 6 "_law_is_still" 3 (specR (F__law_is_still Z))) (F_Bath_height : PropOk Γ 1 Z.Bath "height" "row_count") (F_Bath_cells : PropOk Γ 1 Z.Bath "cells" "signs") (F_Bath_width : PropOk Γ 1 Z.Bath "width" "column_count") (E : XR) : DSs (gaOf Γ 9 n_law s_law E) ((defBody s_law).drop 1) (T_law Z E.row) :=
  (ds_cons (ds_for (di_range1 (da_cons de_int da_nil) (by rfl) B.b_range) (dg_name 2 sc_law.nd) (ds_cons (ds_set 3 (de_call F__law_bath.at (Nat.le_of_ble_eq_true rfl) (by rfl) (da_cons (de_var 1) (da_cons de_int da_nil))) sc_law.nd) (ds_cons (ds_par3 4 5 6 (da_cons (de_call F__law_strides.at (Nat.le_of_ble_eq_true rfl) (by rfl) (da_cons (de_var 1) (da_cons (de_prop F_Bath_height.at (Nat.le_of_ble_eq_true rfl) (de_var 3)) da_nil))) (da_cons (de_call F__law_taken.at (Nat.le_of_ble_eq_true rfl) (by rfl) (da_cons (de_var 1) (da_cons (de_lenI F_Bath___len__.at (Nat.le_of_ble_eq_true rfl) (de_var 3) (by rfl) B.b_len) da_nil))) (da_cons (de_add (de_pow de_int de_int) (de_call F__law_taken.at (Nat.le_of_ble_eq_true rfl) (by rfl) (da_cons (de_var 1) (da_cons de_int da_nil)))) da_nil))) sc_law.nd (hw := by intro env h; cases env; cases h; rfl)) (ds_cons (ds_par 7 8 (da_cons (de_tup (da_cons (de_tup (da_cons (de_str [114, 97, 107, 101]) (da_cons (de_var 4) da_nil))) da_nil)) (da_cons (de_call F__law_taken.at (Nat.le_of_ble_eq_true rfl) (by rfl) (da_cons (de_var 1) (da_cons de_int da_nil))) da_nil)) sc_law.nd (hw := by intro env h; cases env; cases h; rfl)) (ds_cons (ds_set 9 (de_call F_after_times.at (Nat.le_of_ble_eq_true rfl) (by rfl) (da_cons (de_var 3) (da_cons (de_var 7) (da_cons (de_var 6) da_nil)))) sc_law.nd) (ds_cons (ds_set 10 de_int sc_law.nd) (ds_cons (ds_for (di_str (de_str [46, 97, 98, 99])) (dg_name 11 sc_law.nd) (ds_cons (ds_set 12 (de_call F_seen_times.at (Nat.le_of_ble_eq_true rfl) (by rfl) (da_cons (de_var 3) (da_cons (de_var 4) (da_cons (de_var 5) (da_cons (de_var 11) (da_cons (de_var 6) da_nil)))))) sc_law.nd) (ds_cons (ds_set 10 (de_add (de_var 10) (de_var 12)) sc_law.nd) (ds_cons (ds_set 13 (de_call F_seen_times.at (Nat.le_of_ble_eq_true rfl) (by rfl) (da_cons (de_var 3) (da_cons (de_var 4) (da_cons (de_var 5) (da_cons (de_var 11) (da_cons (de_add (de_var 6) (de_var 8)) da_nil)))))) sc_law.nd) (ds_cons (ds_if (dt_ne (de_sub (de_var 13) (de_var 12)) (de_call F_seen_times.at (Nat.le_of_ble_eq_true rfl) (by rfl) (da_cons (de_var 9) (da_cons (de_var 4) (da_cons (de_var 5) (da_cons (de_var 11) (da_cons (de_var 8) da_nil))))))) (ds_one (ds_ret de_bl)) ds_nil) (ds_cons (ds_if (dt_ne (de_sub (de_call F_seen_times.at (Nat.le_of_ble_eq_true rfl) (by rfl) (da_cons (de_var 3) (da_cons (de_var 4) (da_cons (de_var 5) (da_cons (de_var 11) (da_cons (de_add (de_var 6) de_int) da_nil)))))) (de_var 12)) (de_intB (de_eq (de_ix (de_prop F_Bath_cells.at (Nat.le_of_ble_eq_true rfl) (de_var 9)) (de_var 5)) (de_var 11)) (by rfl) B.b_int)) (ds_one (ds_ret de_bl)) ds_nil) (ds_cons (ds_set 14 (de_call F__law_taken.at (Nat.le_of_ble_eq_true rfl) (by rfl) (da_cons (de_var 1) (da_cons (de_pow de_int de_int) da_nil))) sc_law.nd) (ds_cons (ds_set 15 (de_call F_nth_seen.at (Nat.le_of_ble_eq_true rfl) (by rfl) (da_cons (de_var 3) (da_cons (de_var 4) (da_cons (de_var 5) (da_cons (de_var 11) (da_cons (de_var 14) da_nil)))))) sc_law.nd) (ds_cons (ds_if (dt_ne (de_isN (de_var 15) de_non) (de_eq (de_var 12) de_int)) (ds_one (ds_ret de_bl)) ds_nil) (ds_one (ds_if (dt_notN (de_var 15) de_non) (ds_cons (ds_if (dt_ne (de_call F_seen_times.at (Nat.le_of_ble_eq_true rfl) (by rfl) (da_cons (de_var 3) (da_cons (de_var 4) (da_cons (de_var 5) (da_cons (de_var 11) (da_cons (de_var 15) da_nil)))))) (de_var 14)) (ds_one (ds_ret de_bl)) ds_nil) (ds_cons (ds_if (dt_ne (de_call F_seen_times.at (Nat.le_of_ble_eq_true rfl) (by rfl) (da_cons (de_var 3) (da_cons (de_var 4) (da_cons (de_var 5) (da_cons (de_var 11) (da_cons (de_add (de_var 15) de_int) da_nil)))))) (de_add (de_var 14) de_int)) (ds_one (ds_ret de_bl)) ds_nil) (ds_cons (ds_if (dt_ne (de_ix (de_prop F_Bath_cells.at (Nat.le_of_ble_eq_true rfl) (de_call F_after_times.at (Nat.le_of_ble_eq_true rfl) (by rfl) (da_cons (de_var 3) (da_cons (de_var 7) (da_cons (de_var 15) da_nil))))) (de_var 5)) (de_var 11)) (ds_one (ds_ret de_bl)) ds_nil) (ds_one (ds_if (dt_not (dt_ltLe (de_var 15) (de_call F_nth_seen.at (Nat.le_of_ble_eq_true rfl) (by rfl) (da_cons (de_var 3) (da_cons (de_var 4) (da_cons (de_var 5) (da_cons (de_var 11) (da_cons (de_add (de_var 14) de_int) da_nil)))))) (de_add (de_var 15) (de_prop F_Bath_width.at (Nat.le_of_ble_eq_true rfl) (de_var 3))))) (ds_one (ds_ret de_bl)) ds_nil))))) ds_nil))))))))))) (ds_cons (ds_if (dt_w (dw_or (dt_ne (de_var 10) (de_var 6)) (dw_or1 (dt_ne (de_call F_seen_times.at (Nat.le_of_ble_eq_true rfl) (by rfl) (da_cons (de_var 3) (da_cons (de_var 4) (da_cons (de_var 5) (da_cons (de_str [122]) (da_cons (de_var 6) da_nil)))))) de_int)))) (ds_one (ds_ret de_bl)) ds_nil) (ds_one (ds_if (dt_not (dt_val (de_call F__law_is_still.at (Nat.le_of_ble_eq_true rfl) (by rfl) (da_cons (de_var 3) (da_cons (de_var 5) (da_cons (de_var 6) da_nil)))))) (ds_one (ds_ret de_bl)) ds_nil)))))))))) (ds_one (ds_ret de_bl)))
theorem rs_law (Z : Zs) (row : Addr) : RS (U_law Z row) (T_law Z row) :=
  (r_seq (r_for (r_rng1 (r_cons r_c r_nil)) rg_name (r_seq (r_set (r_callS (rf__law_bath Z row) (r_cons r_var (r_cons r_c r_nil)))) (r_seq (r_par3 (r_cons (r_callS (rf__law_strides Z row) (r_cons r_var (r_cons (r_prop r_var) r_nil))) (r_cons (r_callS (rf__law_taken Z row) (r_cons r_var (r_cons (r_lenI (nx_Bath___len__ Z row) r_var) r_nil))) (r_cons (r_op i_add (r_op i_pow r_c r_c) (r_callS (rf__law_taken Z row) (r_cons r_var (r_cons r_c r_nil)))) r_nil)))) (r_seq (r_par (r_cons (r_tup (r_cons (r_tup (r_cons r_c (r_cons r_var r_nil))) r_nil)) (r_cons (r_callS (rf__law_taken Z row) (r_cons r_var (r_cons r_c r_nil))) r_nil))) (r_seq (r_set (r_callS (rf_after_times Z row) (r_cons r_var (r_cons r_var (r_cons r_var r_nil))))) (r_seq (r_set r_c) (r_seq (r_for (r_items r_c) rg_name (r_seq (r_set (r_callS (rf_seen_times Z row) (r_cons r_var (r_cons r_var (r_cons r_var (r_cons r_var (r_cons r_var r_nil))))))) (r_seq (r_set (r_op i_add r_var r_var)) (r_seq (r_set (r_callS (rf_seen_times Z row) (r_cons r_var (r_cons r_var (r_cons r_var (r_cons r_var (r_cons (r_op i_add r_var r_var) r_nil))))))) (r_seq (r_if (r_test (r_op i_ne (r_op i_sub r_var r_var) (r_callS (rf_seen_times Z row) (r_cons r_var (r_cons r_var (r_cons r_var (r_cons r_var (r_cons r_var r_nil)))))))) (r_ret r_c) r_next) (r_seq (r_if (r_test (r_op i_ne (r_op i_sub (r_callS (rf_seen_times Z row) (r_cons r_var (r_cons r_var (r_cons r_var (r_cons r_var (r_cons (r_op i_add r_var r_c) r_nil)))))) r_var) (r_cb i_intB (r_cons (r_op i_eq (r_op i_ix (r_prop r_var) r_var) r_var) r_nil)))) (r_ret r_c) r_next) (r_seq (r_set (r_callS (rf__law_taken Z row) (r_cons r_var (r_cons (r_op i_pow r_c r_c) r_nil)))) (r_seq (r_set (r_callS (rf_nth_seen Z row) (r_cons r_var (r_cons r_var (r_cons r_var (r_cons r_var (r_cons r_var r_nil))))))) (r_seq (r_if (r_test (r_op i_ne (r_op i_isN r_var r_c) (r_op i_eq r_var r_c))) (r_ret r_c) r_next) (r_if (r_test (r_op i_notN r_var r_c)) (r_seq (r_if (r_test (r_op i_ne (r_callS (rf_seen_times Z row) (r_cons r_var (r_cons r_var (r_cons r_var (r_cons r_var (r_cons r_var r_nil)))))) r_var)) (r_ret r_c) r_next) (r_seq (r_if (r_test (r_op i_ne (r_callS (rf_seen_times Z row) (r_cons r_var (r_cons r_var (r_cons r_var (r_cons r_var (r_cons (r_op i_add r_var r_c) r_nil)))))) (r_op i_add r_var r_c))) (r_ret r_c) r_next) (r_seq (r_if (r_test (r_op i_ne (r_op i_ix (r_prop (r_callS (rf_after_times Z row) (r_cons r_var (r_cons r_var (r_cons r_var r_nil))))) r_var) r_var)) (r_ret r_c) r_next) (r_if (r_not (r_test (r_chain i_lt i_le r_var (r_callS (rf_nth_seen Z row) (r_cons r_var (r_cons r_var (r_cons r_var (r_cons r_var (r_cons (r_op i_add r_var r_c) r_nil)))))) (r_op i_add r_var (r_prop r_var))))) (r_ret r_c) r_next)))) r_next)))))))))) (r_seq (r_if (r_or (r_test (r_op i_ne r_var r_var)) (r_test (r_op i_ne (r_callS (rf_seen_times Z row) (r_cons r_var (r_cons r_var (r_cons r_var (r_cons r_c (r_cons r_var r_nil)))))) r_c))) (r_ret r_c) r_next) (r_if (r_not (r_test (r_callS (rf__law_is_still Z row) (r_cons r_var (r_cons r_var (r_cons r_var r_nil)))))) (r_ret r_c) r_next))))))))) (r_ret r_c))
end
end K53
end

section
set_option Elab.async false
set_option linter.all false
set_option maxRecDepth 100000
set_option maxHeartbeats 5000000
/-! Loops, numbers in lists, places of signs. -/
namespace DL
open PySem L2 DL PyProof.Rows
theorem def_all {n : Nat} {U : FS} {ds : List D} {Q : D → Prop} {X : XP} (h : (U (env0 n ds)).all (fun o => match o with | .nx _ => Q .non | .rt d => Q d | _ => False) X) : (fDef n U ds).all Q X := by
  unfold fDef
  rw [Tm.all_bind]
  refine Tm.mono1 (fun o ho => ?_) h
  cases o <;> exact ho
theorem op_to {o : Op2} {a b : FE} {ρ : En} {x y z : D} (ha : a ρ = .ret x) (hb : b ρ = .ret y) (h : o x y = some z) : fOp o a b ρ = .ret z := by
  unfold fOp
  rw [ha, Tm.bind_ret, hb, Tm.bind_ret, h]
  rfl
theorem set_to {i : Nat} {F : FE} {ρ : En} {d : D} (h : F ρ = .ret d) : fSet i F ρ = .ret (.nx (ρ.set i (some (.sh d)))) := by
  unfold fSet
  rw [h]
  rfl
theorem if_to {c : FT} {U U' : FS} {ρ : En} {k : Bool} (h : c ρ = .ret k) : fIf c U U' ρ = if k = true then U ρ else U' ρ := by
  unfold fIf
  rw [h]
  cases k <;> rfl
theorem test_to {F : FE} {ρ : En} {k : Bool} (h : F ρ = .ret (.bl k)) : fTest F ρ = .ret k := by
  unfold fTest
  rw [h]
  rfl
theorem forL_inv {G : FG} {U : FS} {I : En → Prop} : ∀ {ds : List D}, (∀ d ∈ ds, ∀ ρ, I ρ → ∃ ρ1 ρ2, G d ρ = some ρ1 ∧ U ρ1 = .ret (.nx ρ2) ∧ I ρ2) → ∀ {ρ : En}, I ρ → ∃ ρ', forL G U ds ρ = .ret (.nx ρ') ∧ I ρ'
  | [], _, ρ, h => ⟨ρ, rfl, h⟩
  | d :: ds, H, ρ, h => by
    obtain ⟨ρ1, ρ2, e1, e2, i2⟩ := H d (List.mem_cons_self ..) ρ h
    obtain ⟨ρ', e3, i3⟩ := forL_inv (fun x hx => H x (List.mem_cons_of_mem _ hx)) i2
    exact ⟨ρ', by simp only [forL, e1, e2, Tm.bind_ret, e3], i3⟩
theorem forL_all {G : FG} {U : FS} {I : En → Prop} {X : XP} : ∀ {ds : List D}, (∀ d ∈ ds, ∀ ρ, I ρ → ∃ ρ1, G d ρ = some ρ1 ∧ (U ρ1).all (fun o => ∃ ρ2, o = .nx ρ2 ∧ I ρ2) X) → ∀ {ρ : En}, I ρ → (forL G U ds ρ).all (fun o => ∃ ρ', o = .nx ρ' ∧ I ρ') X
  | [], _, ρ, h => ⟨ρ, rfl, h⟩
  | d :: ds, H, ρ, h => by
    obtain ⟨ρ1, e1, e2⟩ := H d (List.mem_cons_self ..) ρ h
    simp only [forL, e1, Tm.all_bind]
    refine Tm.mono1 (fun o ho => ?_) e2
    obtain ⟨ρ2, rfl, i2⟩ := ho
    exact forL_all (fun x hx => H x (List.mem_cons_of_mem _ hx)) i2
def inL (xs : List Int) : List D := xs.map D.int
theorem ints_app {xs ys : List Int} : inL (xs ++ ys) = inL xs ++ inL ys := List.map_append
theorem ints_len {xs : List Int} : (inL xs).length = xs.length := List.length_map ..
theorem atI_nat {α : Type} {xs : List α} {k : Nat} {x : α} (h : xs[k]? = some x) : atI xs (k : Int) = some x := by
  obtain ⟨hl, _⟩ := List.getElem?_eq_some_iff.mp h
  unfold atI ixN
  rw [if_pos (Int.natCast_nonneg k), if_pos (Int.ofNat_lt.mpr hl)]
  exact h
theorem ix_nat {xs : List D} {k : Nat} {x : D} (h : xs[k]? = some x) : oIx (.lst xs) (.int (k : Int)) = some x := atI_nat h
theorem ints_get {xs : List Int} {k : Nat} {i : Int} (h : xs[k]? = some i) : (inL xs)[k]? = some (.int i) := by
  unfold inL
  rw [List.getElem?_map, h]
  rfl
theorem ok_ints : ∀ {xs : List Int}, okB 8 (.lst (inL xs)) = true := by
  intro xs
  show (inL xs).all (okB 7) = true
  refine List.all_eq_true.mpr fun d hd => ?_
  obtain ⟨i, _, rfl⟩ := List.mem_map.mp hd
  rfl
theorem eq_ints : ∀ {xs ys : List Int}, eqLs (eqB 7) (inL xs) (inL ys) = decide (xs = ys)
  | [], [] => rfl
  | [], y :: ys => rfl
  | x :: xs, [] => rfl
  | x :: xs, y :: ys => by
    have ih := eq_ints (xs := xs) (ys := ys)
    show ((x == y) && eqLs (eqB 7) (inL xs) (inL ys)) = _
    rw [ih]
    by_cases a : x = y <;> by_cases b : xs = ys <;> simp [a, b]
theorem ne_ints {xs ys : List Int} : oNe (.lst (inL xs)) (.lst (inL ys)) = some (.bl (!decide (xs = ys))) := by
  unfold oNe
  rw [ok_ints, ok_ints]
  show some (D.bl (!eqLs (eqB 7) (inL xs) (inL ys))) = _
  rw [eq_ints]
theorem rng2_eq {i : Int} {n : Nat} (h0 : -100000 ≤ i) (h1 : i ≤ 100000) (h2 : i + (n : Int) ≤ 100000) : rng2 [.int i, .int (i + (n : Int))] = some (intsD i n) := by
  show (if decide (-100000 ≤ i) && decide (i ≤ 100000) && decide (i + (n : Int) ≤ 100000) && decide (-100000 ≤ i + (n : Int)) then some (intsD i (i + (n : Int) - i).toNat) else none) = _
  rw [decide_eq_true h0, decide_eq_true h1, decide_eq_true h2, decide_eq_true (by omega), show i + (n : Int) - i = (n : Int) by omega]
  rfl
theorem cut_mid {α : Type} {xs : List α} {i j : Nat} (h : i ≤ j) (hj : j ≤ xs.length) : DL.cutD xs (some (i : Int)) (some (j : Int)) = (xs.take j).drop i := by
  unfold DL.cutD
  rw [HT.sIx_nat, HT.sIx_nat, Nat.min_eq_left (Nat.le_trans h hj), Nat.min_eq_left hj, List.drop_take]
theorem textsOf_str : ∀ {cs : List Nat}, textsOf (cs.map fun c => D.str [c]) = some (cs.map fun c => [c])
  | [] => rfl
  | c :: cs => by
    show (textsOf (cs.map fun c => D.str [c])).map ([c] :: ·) = _
    rw [textsOf_str]
    rfl
theorem join_chars {cs : List Nat} (h : cs.length ≤ 100000) : oJoin [] (.lst (cs.map fun c => D.str [c])) = some (.str cs) := by
  show (match textsOf (cs.map fun c => D.str [c]) with | some bs => gd (decide ((bs.map List.length).sum + bs.length * ([] : List Nat).length ≤ 100000)) (D.str (TL.joinL [] bs)) | none => none) = _
  rw [textsOf_str]
  show gd (decide (((cs.map fun c => [c]).map List.length).sum + (cs.map fun c => [c]).length * 0 ≤ 100000)) (D.str (TL.joinL [] (cs.map fun c => [c]))) = _
  rw [joinL_nil, sum_ones, decide_eq_true (by omega)]
  rfl
theorem chars_of : ∀ {r : List D} {p : Nat → Prop}, (∀ y ∈ r, ∃ c, y = .str [c] ∧ p c) → ∃ cs : List Nat, r = cs.map (fun c => D.str [c]) ∧ ∀ c ∈ cs, p c
  | [], p, _ => ⟨[], rfl, fun _ z => by cases z⟩
  | y :: r, p, h => by
    obtain ⟨c, rfl, hc⟩ := h y (List.mem_cons_self ..)
    obtain ⟨cs, rfl, m⟩ := chars_of (r := r) (p := p) fun z hz => h z (List.mem_cons_of_mem _ hz)
    refine ⟨c :: cs, rfl, fun z hz => ?_⟩
    obtain rfl | hz := List.mem_cons.mp hz
    · exact hc
    · exact m z hz
/-- a bath's size and signs -/
structure Gb (w h : Int) (cs : List Nat) : Prop where
  w1 : 1 ≤ w
  w5 : w ≤ 5
  h1 : 1 ≤ h
  h5 : h ≤ 5
  wh : w * h ≤ 12
  len : (cs.length : Int) = w * h
  sg : cs.all sgC = true
theorem sgC_cases {c : Nat} (h : sgC c = true) : c = 46 ∨ (97 ≤ c ∧ c ≤ 122) := by
  simp [sgC, LET] at h
  omega
theorem sg_okC {cs : List Nat} (h : cs.all sgC = true) : okC cs = true := List.all_eq_true.mpr fun c hc => by
  have := sgC_cases (List.all_eq_true.mp h c hc)
  simp
  omega
theorem Gb.ok {w h : Int} {cs : List Nat} (b : Gb w h cs) : okC cs = true := sg_okC b.sg
theorem Gb.size {w h : Int} {cs : List Nat} (b : Gb w h cs) : 1 ≤ w * h ∧ cs.length ≤ 12 := by
  have := size_le b.w1 b.w5 b.h1 b.h5
  have := b.wh
  have := b.len
  exact ⟨by omega, by omega⟩
theorem sg4 {c : Nat} (h : c ∈ [46, 97, 98, 99]) : sgC c = true ∧ c < 1114112 := by
  simp at h
  rcases h with rfl | rfl | rfl | rfl <;> exact ⟨rfl, by decide⟩
/-! ### steps of numbers, filters -/
def nL' (xs : List Nat) : List D := xs.map fun (i : Nat) => D.int (i : Int)
theorem forL_upto {G : FG} {U : FS} {I : Nat → En → Prop} {n : Nat} (H : ∀ i, i < n → ∀ ρ, I i ρ → ∃ ρ1 ρ2, G (.int (i : Int)) ρ = some ρ1 ∧ U ρ1 = .ret (.nx ρ2) ∧ I (i + 1) ρ2) {ρ : En} (h : I 0 ρ) : ∃ ρ', forL G U (intsD 0 n) ρ = .ret (.nx ρ') ∧ I n ρ' := by
  have go : ∀ (m k : Nat) (ρ : En), k + m = n → I k ρ → ∃ ρ', forL G U ((List.range' k m).map fun (i : Nat) => D.int (0 + (i : Int))) ρ = .ret (.nx ρ') ∧ I n ρ' := by
    intro m
    induction m with
    | zero => intro k ρ e hI; exact ⟨ρ, rfl, by rw [← e]; exact hI⟩
    | succ m ih =>
      intro k ρ e hI
      obtain ⟨ρ1, ρ2, e1, e2, i2⟩ := H k (by omega) ρ hI
      obtain ⟨ρ', e3, i3⟩ := ih (k + 1) ρ2 (by omega) i2
      refine ⟨ρ', ?_, i3⟩
      rw [List.range'_succ, List.map_cons]
      simp only [forL, Int.zero_add, e1, e2, Tm.bind_ret]
      simpa only [Int.zero_add] using e3
  unfold intsD
  rw [List.range_eq_range']
  exact go n 0 ρ (by omega) h
theorem lcL2_map {G G1 : FG} {TU TU1 : FT} {Fi1 : FL} {T : FE} {vs1 : List Nat} {ρ : En} {g : D → List D} : ∀ {ds : List D}, (∀ d ∈ ds, ∃ ρ2 es, G d ρ = some ρ2 ∧ TU ρ2 = .ret true ∧ Fi1 ρ2 = .ret es ∧ noOw vs1 ρ2 = true ∧ es.length ≤ 1000 ∧ lcL G1 TU1 T (wipeD ρ2 vs1) es = .ret (g d)) → lcL2 G TU Fi1 G1 TU1 T vs1 ρ ds = .ret (ds.map g).flatten
  | [], _ => rfl
  | d :: ds, h => by
    obtain ⟨ρ2, es, e1, e2, e3, e4, e5, e6⟩ := h d (List.mem_cons_self ..)
    have ih := lcL2_map (ds := ds) fun x hx => h x (List.mem_cons_of_mem _ hx)
    simp only [lcL2, e1, e2, e3, e4, decide_eq_true e5, e6, ih, Tm.bind_ret, Tm.chk, Bool.and_self, List.map, List.flatten]
    rfl
theorem range_mul {α : Type} {W : Nat} {F : Nat → α} : ∀ H : Nat, ((List.range H).map fun r => (List.range W).map fun c => F (r * W + c)).flatten = (List.range (H * W)).map F
  | 0 => by rw [Nat.zero_mul]; rfl
  | H + 1 => by
    rw [List.range_succ, List.map_append, List.flatten_append, range_mul H, Nat.succ_mul, List.range_add, List.map_append, List.map_map]
    simp only [List.map_cons, List.map_nil, List.flatten_cons, List.flatten_nil, List.append_nil]
    rfl
theorem nL_flat {xss : List (List Nat)} : (xss.map nL').flatten = nL' xss.flatten := by
  induction xss with
  | nil => rfl
  | cons x r ih => rw [List.map_cons, List.flatten_cons, ih, List.flatten_cons]; exact List.map_append.symm
theorem lcL_filter {G : FG} {TU : FT} {T : FE} {ρ : En} {p : D → Bool} {f : D → D} : ∀ {ds : List D}, (∀ d ∈ ds, ∃ ρ2, G d ρ = some ρ2 ∧ TU ρ2 = .ret (p d) ∧ (p d = true → T ρ2 = .ret (f d))) → lcL G TU T ρ ds = .ret ((ds.filter p).map f)
  | [], _ => rfl
  | d :: ds, h => by
    obtain ⟨ρ2, e1, e2, e3⟩ := h d (List.mem_cons_self ..)
    have ih := lcL_filter (ds := ds) fun x hx => h x (List.mem_cons_of_mem _ hx)
    cases e : p d with
    | true => simp only [lcL, e1, e2, e, e3 e, ih, Tm.bind_ret, List.filter, List.map]
    | false => simp only [lcL, e1, e2, e, ih, Tm.bind_ret, List.filter]
/-- numbers from 0 on as data -/
def nL (xs : List Nat) : List D := xs.map fun (i : Nat) => D.int (i : Int)
theorem nL_len {xs : List Nat} : (nL xs).length = xs.length := List.length_map ..
theorem intsD0 {n : Nat} : intsD 0 n = nL (List.range n) := by
  unfold intsD nL
  refine List.map_congr_left fun (number : Nat) _ => ?_
  rw [Int.zero_add]
theorem nL_get {xs : List Nat} {k x : Nat} (h : xs[k]? = some x) : (nL xs)[k]? = some (.int (x : Int)) := by
  unfold nL
  rw [List.getElem?_map, h]
  rfl
/-- numbers of a list that are less than one -/
theorem lc_lt {G : FG} {TU : FT} {T : FE} {ρ : En} {xs : List Nat} {p : Nat → Bool} (h : ∀ x ∈ xs, ∃ ρ2, G (.int (x : Int)) ρ = some ρ2 ∧ TU ρ2 = .ret (p x) ∧ T ρ2 = .ret (.int (x : Int))) : lcL G TU T ρ (nL xs) = .ret (nL (xs.filter p)) := by
  rw [lcL_filter (p := fun d => match d with | .int i => p i.toNat | _ => false) (f := id) fun d hd => ?_]
  · unfold nL
    rw [List.filter_map, List.map_map]
    congr 1
  · obtain ⟨x, hx, rfl⟩ := List.mem_map.mp hd
    obtain ⟨ρ2, e1, e2, e3⟩ := h x hx
    exact ⟨ρ2, e1, e2, fun _ => e3⟩
/-- the number of a sign -/
def SIG : List Nat := [46, 97, 98, 99, 100, 101, 102, 103, 104, 105, 106, 107, 108, 109, 110, 111, 112, 113, 114, 115, 116, 117, 118, 119, 120, 121, 122]
def numN (c : Nat) : Nat := if c = 46 then 0 else c - 96
theorem sg_all {P : Nat → Prop} (h46 : P 46) (h : ∀ k, k < 26 → P (97 + k)) {c : Nat} (hc : sgC c = true) : P c := by
  rcases sgC_cases hc with rfl | ⟨a, b⟩
  · exact h46
  · have := h (c - 97) (by omega)
    rwa [show 97 + (c - 97) = c by omega] at this
end DL
end

section
set_option Elab.async false
set_option linter.all false
set_option maxRecDepth 100000
set_option maxHeartbeats 5000000
namespace K53
open PySem L2 DL PyProof.Rows
/-! ### what the checks and the class give -/
theorem is_number_eq {Z : Zs} {row : Addr} {v : D} {a b : Int} (h : plainTy v = true) : F_is_number Z row [v, .int a, .int b] = .ret (.bl (isNum v a b)) := by
  unfold F_is_number U_is_number
  cases v with
  | int i =>
    by_cases h1 : a ≤ i <;> simp [fDef, env0, fRet, fAndV, fNotV, fCB, fCons, fNil, fVar, fC, fChain, oIsi, gd, plainTy, isiD, oLe, oI, cT, isNum, h1]
  | ref => cases h
  | ty => cases h
  | ins => cases h
  | bl b => simp [fDef, env0, fRet, fAndV, fNotV, fCB, fCons, fNil, fVar, fC, fChain, oIsi, gd, plainTy, isiD, isNum]
  | non => simp [fDef, env0, fRet, fAndV, fNotV, fCB, fCons, fNil, fVar, fC, fChain, oIsi, gd, plainTy, isiD, isNum]
  | str => simp [fDef, env0, fRet, fAndV, fNotV, fCB, fCons, fNil, fVar, fC, fChain, oIsi, gd, plainTy, isiD, isNum]
  | tup => simp [fDef, env0, fRet, fAndV, fNotV, fCB, fCons, fNil, fVar, fC, fChain, oIsi, gd, plainTy, isiD, isNum]
  | lst => simp [fDef, env0, fRet, fAndV, fNotV, fCB, fCons, fNil, fVar, fC, fChain, oIsi, gd, plainTy, isiD, isNum]
  | dic => simp [fDef, env0, fRet, fAndV, fNotV, fCB, fCons, fNil, fVar, fC, fChain, oIsi, gd, plainTy, isiD, isNum]
theorem is_letter_eq {Z : Zs} {row : Addr} {v : D} (h : okSg v = true) : F_is_letter Z row [v] = .ret (.bl (isLet v)) := by
  unfold F_is_letter U_is_letter
  cases v with
  | str cs =>
    obtain ⟨h1, h2⟩ := okSg_str h
    have h3 : cs.length ≤ 100000 := by omega
    by_cases c1 : cs.length = 1
    · obtain ⟨c, rfl⟩ := List.length_eq_one_iff.mp c1
      simp [fDef, env0, fRet, fAndV, fCB, fCons, fNil, fVar, fC, fOp, oIsi, oLen, oEq, oIn, DL.subB, gd, plainTy, isiD, okB, eqB, isLet, LET]
    · have e : ((cs.length : Int) == 1) = false := by
        rw [beq_eq_false_iff_ne]
        omega
      simp [fDef, env0, fRet, fAndV, fCB, fCons, fNil, fVar, fC, fOp, oIsi, oLen, oEq, gd, plainTy, isiD, okB, eqB, h3, e, isLet_no c1]
  | non => simp [fDef, env0, fRet, fAndV, fCB, fCons, fNil, fVar, fC, fOp, oIsi, gd, plainTy, isiD, isLet]
  | bl => simp [fDef, env0, fRet, fAndV, fCB, fCons, fNil, fVar, fC, fOp, oIsi, gd, plainTy, isiD, isLet]
  | int => simp [fDef, env0, fRet, fAndV, fCB, fCons, fNil, fVar, fC, fOp, oIsi, gd, plainTy, isiD, isLet]
  | _ => cases h
theorem is_sign_eq {Z : Zs} {row : Addr} {v : D} (h : okSg v = true) : F_is_sign Z row [v] = .ret (.bl (isSg v)) := by
  unfold F_is_sign U_is_sign
  have e := is_letter_eq (Z := Z) (row := row) h
  have key : isSg v = (isLet v || eqB 8 v (.str [46])) := by
    cases v with
    | str cs =>
      match cs with
      | [] => rfl
      | [c] =>
        show (decide (c ∈ LET) || c == 46) = (decide (c ∈ LET) || [c] == [46])
        rw [show ([c] == [46]) = (c == 46) from by show (c == 46 && true) = _; rw [Bool.and_true]]
      | a :: b :: r =>
        show false = (false || (a :: b :: r == [46]))
        simp
    | non => rfl
    | bl => rfl
    | int => rfl
    | _ => cases h
  have ok : okB 8 v = true := by
    cases v with
    | str cs => exact (okSg_str h).1
    | non => rfl
    | bl => rfl
    | int => rfl
    | _ => cases h
  have ok2 : okB 8 (.str [46]) = true := by decide
  simp only [fDef, env0, fRet, fOrV, fCall, fCons, fNil, fVar, fC, fOp, oEq, List.map, List.length_cons, List.length_nil, List.replicate, Nat.sub_self, List.append_nil, List.getElem?_cons_zero, Tm.bind_ret, Tm.bind_assoc, e, Tm.chk, ok, ok2, gd, key]
  cases isLet v <;> rfl
theorem is_sign_text_eq {Z : Zs} {row : Addr} {v : D} {n : Int} (h : okSg v = true) : F_is_sign_text Z row [v, .int n] = .ret (.bl (isText v n)) := by
  unfold F_is_sign_text U_is_sign_text
  cases v with
  | str cs =>
    obtain ⟨h1, h2⟩ := okSg_str h
    have h3 : cs.length ≤ 100000 := by omega
    have e : lcL (hName 2) fYes (fCall (F_is_sign Z row) 1 (fCons (fVar 2) fNil)) (wipeD [some (.sh (.str cs)), some (.sh (.int n)), none] [2]) (cs.map fun c => D.str [c]) = .ret ((cs.map fun c => D.str [c]).map fun d => .bl (isSg d)) := lcL_map fun d hd => by
      obtain ⟨c, hc, rfl⟩ := List.mem_map.mp hd
      refine ⟨_, rfl, rfl, ?_⟩
      have := is_sign_eq (Z := Z) (row := row) (okC_mem h1 hc)
      simp [fCall, fCons, fVar, fNil, wipeD, this, Tm.chk]
    rw [List.map_map] at e
    have e2 : boolsOf (cs.map ((fun d => D.bl (isSg d)) ∘ fun c => D.str [c])) = some (cs.map sgC) := boolsOf_map (f := fun c => isSg (.str [c]))
    by_cases q : (cs.length : Int) = n
    · simp [fDef, env0, fRet, fAndV, fCB, fCons, fNil, fVar, fC, fOp, fOfL, fLc, fItems, DL.strOf, noOw, ck, oIsi, oLen, oEq, oAll, gd, plainTy, isiD, okB, eqB, h3, q, Tm.chk, e, e2, isText, all_id]
    · have q2 : ((cs.length : Int) == n) = false := beq_eq_false_iff_ne.mpr q
      simp [fDef, env0, fRet, fAndV, fCB, fCons, fNil, fVar, fC, fOp, oIsi, oLen, oEq, gd, plainTy, isiD, okB, eqB, h3, q2, isText]
  | non => simp [fDef, env0, fRet, fAndV, fCB, fCons, fNil, fVar, fC, fOp, oIsi, gd, plainTy, isiD, isText]
  | bl => simp [fDef, env0, fRet, fAndV, fCB, fCons, fNil, fVar, fC, fOp, oIsi, gd, plainTy, isiD, isText]
  | int => simp [fDef, env0, fRet, fAndV, fCB, fCons, fNil, fVar, fC, fOp, oIsi, gd, plainTy, isiD, isText]
  | _ => cases h
theorem wrong_side_eq {Z : Zs} {row : Addr} {w h : D} (pw : plainTy w = true) (ph : plainTy h = true) : F_wrong_side Z row [w, h] = .ret (wSide w h) := by
  unfold F_wrong_side U_wrong_side wSide
  have e1 := is_number_eq (Z := Z) (row := row) (a := 1) (b := 5) pw
  have e2 := is_number_eq (Z := Z) (row := row) (a := 1) (b := 5) ph
  cases c1 : isNum w 1 5 with
  | false => simp [fDef, env0, fSeq, fIf, fNot, fTest, fCall, fCons, fNil, fVar, fC, fRet, fNext, Tm.chk, e1, c1]
  | true =>
    cases c2 : isNum h 1 5 with
    | false => simp [fDef, env0, fSeq, fIf, fNot, fTest, fOr, fCall, fCons, fNil, fVar, fC, fRet, fNext, Tm.chk, e1, e2, c1, c2]
    | true =>
      obtain ⟨i, rfl, i1, i5⟩ := isNum_int c1
      obtain ⟨j, rfl, j1, j5⟩ := isNum_int c2
      have m : (decide (i.natAbs < 18446744073709551616) || decide (j.natAbs < 18446744073709551616)) = true := by
        rw [decide_eq_true (by omega)]; rfl
      have m1 : i.natAbs < 18446744073709551616 := by omega
      by_cases c3 : 12 < i * j <;> simp [fDef, env0, fSeq, fIf, fNot, fTest, fOr, fCall, fCons, fNil, fVar, fC, fRet, fNext, fOp, oMul, oGt, oI, gd, cT, Tm.chk, e1, e2, c1, c2, over12, c3, m1]
theorem bath_init_eq {Z : Zs} {row : Addr} {w h c : D} (pw : plainTy w = true) (ph : plainTy h = true) (pc : okSg c = true) :
    F_Bath___init__ Z row [w, h, c] = match badPart w h c with | some p => .exc ⟨Z.InvalidBath, [(Str.ofString "part", .str p)]⟩ | none => .ret (.ins Z.Bath (bathF w h c)) := by
  unfold F_Bath___init__ U_Bath_checks U_Bath___init___0 U_Bath___init___1 U_Bath___init___2 badPart
  have e1 := wrong_side_eq (Z := Z) (row := row) pw ph
  rcases wSide_cases (w := w) (h := h) with ⟨p, e2, hp⟩ | ⟨e2, i, j, rfl, rfl, i1, i5, j1, j5, _⟩
  · have m : msgD (.str p) = true := by
      rcases hp with rfl | rfl <;> decide
    simp [fSeq, fSet, fCall, fCons, fNil, fVar, fIf, fTest, fOp, oNotN, DL.isNon, fC, fRaise1, Tm.chk, e1, e2, m]
  · have m1 : i.natAbs < 18446744073709551616 := by omega
    have e3 := is_sign_text_eq (Z := Z) (row := row) (n := i * j) pc
    have m : msgD (.str [99, 101, 108, 108, 115]) = true := by decide
    cases e4 : isText c (i * j) <;> simp [fSeq, fSet, fCall, fCons, fNil, fVar, fIf, fTest, fNot, fOp, oNotN, DL.isNon, oMul, oI, gd, fC, fRaise1, fNext, endB, Tm.chk, e1, e2, e3, e4, m, m1, cellsT]
theorem bath_eq_eq {Z : Zs} {row : Addr} {w h w' h' : Int} {cs cs' : List Nat} (h1 : okC cs = true) (h2 : okC cs' = true) : F_Bath___eq__ Z row [.ins Z.Bath (bathF (.int w) (.int h) (.str cs)), .ins Z.Bath (bathF (.int w') (.int h') (.str cs'))] = .ret (.bl (decide (w = w' ∧ h = h' ∧ cs = cs'))) := by
  unfold F_Bath___eq__ U_Bath___eq__
  by_cases c1 : w = w' <;> by_cases c2 : h = h' <;> by_cases c3 : cs = cs' <;> simp [fDef, env0, fRet, fAndV, fCB, fCons, fNil, fFld, oFld, fVar, fC, oIsC, fOp, oEq, okB, eqB, gd, lkc, lkr, lks, h1, h2, c1, c2, c3, beq_dc]
theorem init_good {Z : Zs} {row : Addr} {w h : Int} {cs : List Nat} (w1 : 1 ≤ w) (w5 : w ≤ 5) (h1 : 1 ≤ h) (h5 : h ≤ 5) (wh : w * h ≤ 12) (l : (cs.length : Int) = w * h) (a : cs.all sgC = true) (o : okC cs = true) : F_Bath___init__ Z row [.int w, .int h, .str cs] = .ret (.ins Z.Bath (bathF (.int w) (.int h) (.str cs))) := by
  obtain ⟨_, b⟩ := size_le w1 w5 h1 h5
  rw [bath_init_eq rfl rfl (okSg_of o (by omega)), good_part w1 w5 h1 h5 wh l a]
theorem bath_len_eq {Z : Zs} {row : Addr} {w h : D} {cs : List Nat} (hl : cs.length ≤ 100000) : F_Bath___len__ Z row [.ins Z.Bath (bathF w h (.str cs))] = .ret (.int cs.length) := by
  unfold F_Bath___len__ U_Bath___len__
  simp [fDef, env0, fRet, fCB, fCons, fNil, fFld, oFld, fVar, lks, oLen, gd, hl]
theorem law_bath_all {Z : Zs} {row : Addr} {Q : D → Prop} {X : XP} (q : ∀ w h cs, Gb w h cs → w ≤ 4 → h ≤ 3 → (∀ c ∈ cs, c ∈ [46, 97, 98, 99]) → Q (bd Z w h cs)) : (F__law_bath Z row [.ref row, .int 3]).all Q X := by
  have t4 := taken_eq (Z := Z) (row := row) (m := 4) (by decide) (by decide)
  have t3 := taken_eq (Z := Z) (row := row) (m := 3) (by decide) (by decide)
  unfold F__law_bath U__law_bath
  have e0 : env0 5 [.ref row, .int 3] = [some (.sh (.ref row)), some (.sh (.int 3)), none, none, none] := rfl
  rw [show fDef 5 = fun U ds => (U (env0 5 ds)).bind fun o => match o with | .nx _ => .ret .non | .rt d => .ret d | _ => .stuck from rfl]
  simp only [e0, fSeq, fPar, fOp, fCall, fCons, fNil, fC, fVar, t4, t3, Tm.bind_ret, Tm.bind_assoc, Tm.all_bind, List.getElem?_cons_zero, List.getElem?_cons_succ, List.length_cons, List.length_nil, Tm.chk]
  rintro _ ⟨a, rfl, a0, a4⟩
  have ea : oAdd (.int 1) (.int a) = some (.int (1 + a)) := rfl
  simp only [Tm.all_ret, ea, Tm.ofO_some, Tm.bind_ret, Tm.all_bind, Tm.bind_assoc]
  rintro _ ⟨b, rfl, b0, b3⟩
  have eb : oAdd (.int 1) (.int b) = some (.int (1 + b)) := rfl
  obtain ⟨s1, s2⟩ := size_le (w := 1 + a) (h := 1 + b) (by omega) (by omega) (by omega) (by omega)
  have s3 : (1 + a) * (1 + b) ≤ 12 := by
    have : (1 + a) * (1 + b) ≤ 4 * 3 := Int.mul_le_mul (by omega) (by omega) (by omega) (by omega)
    omega
  have em := mul_eq (i := 1 + a) (j := 1 + b) (by omega)
  have er := rng1_eq (k := (1 + a) * (1 + b)) (by omega) (by omega)
  have lenI : (intsD 0 ((1 + a) * (1 + b)).toNat).length = ((1 + a) * (1 + b)).toNat := by simp only [intsD, List.length_map, List.length_range]
  have cn : ck (intsD 0 ((1 + a) * (1 + b)).toNat) = true := decide_eq_true (by rw [lenI]; omega)
  simp only [eb, fRet, fCall, fRng1, fLc, fOfL, fJoin, fCons, fNil, fC, fVar, fOp, em, er, cn, noOw, List.all_cons, List.all_nil, Tm.all_ret, Tm.ofO_some, Tm.bind_ret, Tm.bind_assoc, Tm.all_bind, List.set_cons_zero, List.set_cons_succ, List.getElem?_cons_zero, List.getElem?_cons_succ, Tm.chk, Bool.and_self]
  refine Tm.nox_all (lcL_all (P := fun y => ∃ c, y = .str [c] ∧ c ∈ [46, 97, 98, 99]) (fun d hd => ⟨_, rfl, rfl, ?_⟩) fun r hr hp => ?_)
  · simp only [wipeD, hName, fOp, fC, fCall, fCons, fNil, fVar, List.set_cons_zero, List.set_cons_succ, List.getElem?_cons_zero, List.getElem?_cons_succ, Tm.bind_ret, Tm.all_bind, Tm.chk, List.length_cons, List.length_nil, t4]
    rintro _ ⟨k, rfl, k0, k4⟩
    obtain ⟨n, rfl⟩ : ∃ n : Nat, k = n := ⟨k.toNat, by omega⟩
    match n, k4 with
    | 0, _ => exact ⟨46, rfl, by simp⟩
    | 1, _ => exact ⟨97, rfl, by simp⟩
    | 2, _ => exact ⟨98, rfl, by simp⟩
    | 3, _ => exact ⟨99, rfl, by simp⟩
    | n + 4, h => exact absurd h (by omega)
  · obtain ⟨cs, rfl, hc⟩ := chars_of hp
    rw [List.length_map, lenI] at hr
    have g : Gb (1 + a) (1 + b) cs := ⟨by omega, by omega, by omega, by omega, s3, by omega, List.all_eq_true.mpr fun c h => (sg4 (hc c h)).1⟩
    have ej := join_chars (cs := cs) (by omega)
    have ei := init_good (Z := Z) (row := row) g.w1 g.w5 g.h1 g.h5 g.wh g.len g.sg g.ok
    simp only [ej, Tm.ofO_some, Tm.bind_ret, Tm.all_ret, List.length_cons, List.length_nil]
    show (F_Bath___init__ Z row [.int (1 + a), .int (1 + b), .str cs]).all _ _
    rw [ei]
    exact q _ _ _ g (by omega) (by omega) hc
end K53
end

section
set_option Elab.async false
set_option linter.all false
/-! Numbers that hit, again and again. -/
namespace NT
variable {hit : Nat → Bool} {W : Nat}
def hits (hit : Nat → Bool) (n : Nat) : List Nat := (List.range n).filter hit
theorem hits_add (a b : Nat) : hits hit (a + b) = hits hit a ++ (hits (fun t => hit (a + t)) b).map (a + ·) := by
  unfold hits
  rw [List.range_add, List.filter_append, List.filter_map]
  rfl
theorem hits_succ (a : Nat) : hits hit (a + 1) = hits hit a ++ (if hit a then [a] else []) := by
  unfold hits
  rw [List.range_succ, List.filter_append]
  cases e : hit a <;> simp [e]
theorem per (hp : ∀ t, hit (t + W) = hit t) (q t : Nat) : hit (q * W + t) = hit t := by
  induction q with
  | zero => rw [Nat.zero_mul, Nat.zero_add]
  | succ q ih => rw [show (q + 1) * W + t = (q * W + t) + W by rw [Nat.succ_mul]; omega, hp, ih]
theorem hits_per (hp : ∀ t, hit (t + W) = hit t) (q b : Nat) : hits hit (q * W + b) = hits hit (q * W) ++ (hits hit b).map (q * W + ·) := by
  rw [hits_add, show (fun t => hit (q * W + t)) = hit from funext fun t => per hp q t]
theorem hits_len (hp : ∀ t, hit (t + W) = hit t) (q : Nat) : (hits hit (q * W)).length = q * (hits hit W).length := by
  induction q with
  | zero => rw [Nat.zero_mul, Nat.zero_mul]; rfl
  | succ q ih => rw [Nat.succ_mul, hits_per hp, List.length_append, List.length_map, ih, Nat.succ_mul]
theorem lt_of_hits {n t : Nat} (h : t ∈ hits hit n) : t < n := List.mem_range.mp (List.mem_filter.mp h).1
theorem hits_cut {r n : Nat} (h : r ≤ n) : (hits hit n).filter (fun t => decide (t < r)) = hits hit r := by
  obtain ⟨m, rfl⟩ : ∃ m, n = r + m := ⟨n - r, by omega⟩
  rw [hits_add, List.filter_append, List.filter_eq_self.mpr (fun t ht => decide_eq_true (lt_of_hits ht)), List.filter_eq_nil_iff.mpr (fun t ht => ?_), List.append_nil]
  obtain ⟨x, _, rfl⟩ := List.mem_map.mp ht
  simp
theorem hits_count (hp : ∀ t, hit (t + W) = hit t) (hW : 0 < W) (n : Nat) : (hits hit n).length = n / W * (hits hit W).length + ((hits hit W).filter (fun t => decide (t < n % W))).length := by
  have e : n / W * W + n % W = n := by rw [Nat.mul_comm]; exact Nat.div_add_mod n W
  rw [hits_cut (Nat.le_of_lt (Nat.mod_lt n hW))]
  conv => lhs; rw [← e]
  rw [hits_per hp, List.length_append, List.length_map, hits_len hp]
theorem hits_prefix {a n k x : Nat} (h : a ≤ n) (e : (hits hit a)[k]? = some x) : (hits hit n)[k]? = some x := by
  obtain ⟨m, rfl⟩ : ∃ m, n = a + m := ⟨n - a, by omega⟩
  rw [hits_add, List.getElem?_append_left (List.getElem?_eq_some_iff.mp e).1]
  exact e
theorem hits_nth0 (hp : ∀ t, hit (t + W) = hit t) : ∀ (q k : Nat), k < q * (hits hit W).length → ∃ x, (hits hit W)[k % (hits hit W).length]? = some x ∧ (hits hit (q * W))[k]? = some (k / (hits hit W).length * W + x)
  | 0, k, h => absurd h (by rw [Nat.zero_mul]; exact Nat.not_lt_zero k)
  | q + 1, k, h => by
    rw [Nat.succ_mul] at h
    by_cases c : k < q * (hits hit W).length
    · obtain ⟨x, e1, e2⟩ := hits_nth0 hp q k c
      refine ⟨x, e1, ?_⟩
      rw [Nat.succ_mul]
      exact hits_prefix (Nat.le_add_right _ _) e2
    · obtain ⟨j, rfl⟩ : ∃ j, k = q * (hits hit W).length + j := ⟨k - q * (hits hit W).length, by omega⟩
      have jl : j < (hits hit W).length := by omega
      have m0 : 0 < (hits hit W).length := by omega
      have d1 : (q * (hits hit W).length + j) / (hits hit W).length = q := by
        rw [Nat.mul_comm, Nat.mul_add_div m0, Nat.div_eq_of_lt jl, Nat.add_zero]
      have d2 : (q * (hits hit W).length + j) % (hits hit W).length = j := by
        rw [Nat.mul_comm, Nat.mul_add_mod, Nat.mod_eq_of_lt jl]
      rw [d1, d2]
      refine ⟨_, List.getElem?_eq_getElem jl, ?_⟩
      rw [Nat.succ_mul, hits_per hp, List.getElem?_append_right (by rw [hits_len hp]; omega), hits_len hp, Nat.add_sub_cancel_left, List.getElem?_map, List.getElem?_eq_getElem jl]
      rfl
theorem hits_nth (hp : ∀ t, hit (t + W) = hit t) (hW : 0 < W) {n k y : Nat} (e : (hits hit n)[k]? = some y) : ∃ x, (hits hit W)[k % (hits hit W).length]? = some x ∧ y = k / (hits hit W).length * W + x := by
  have big : n ≤ n * W := Nat.le_mul_of_pos_right n hW
  have e2 := hits_prefix big e
  have lt := (List.getElem?_eq_some_iff.mp e2).1
  rw [hits_len hp] at lt
  obtain ⟨x, a, b⟩ := hits_nth0 hp n k lt
  rw [b] at e2
  cases e2
  exact ⟨x, a, rfl⟩
/-- the first that comes again -/
theorem first_rep {α : Type} (f : Nat → α) {N : Nat} (hN : 0 < N) (h : f N = f 0) : ∃ n b, b < n ∧ n ≤ N ∧ f n = f b ∧ ∀ i j, i < n → j < n → f i = f j → i = j := by
  have go : ∀ k : Nat, (∃ n b, b < n ∧ n ≤ k ∧ f n = f b ∧ ∀ i j, i < n → j < n → f i = f j → i = j) ∨ ∀ i j, i < k + 1 → j < k + 1 → f i = f j → i = j := by
    intro k
    induction k with
    | zero => exact .inr fun i j hi hj _ => by omega
    | succ k ih =>
      rcases ih with ⟨n, b, h1, h2, h3, h4⟩ | ih
      · exact .inl ⟨n, b, h1, by omega, h3, h4⟩
      · by_cases c : ∃ b, b < k + 1 ∧ f (k + 1) = f b
        · obtain ⟨b, hb, e⟩ := c
          exact .inl ⟨k + 1, b, hb, Nat.le_refl _, e, ih⟩
        · refine .inr fun i j hi hj e => ?_
          rcases Nat.lt_or_ge i (k + 1) with hi' | hi' <;> rcases Nat.lt_or_ge j (k + 1) with hj' | hj'
          · exact ih i j hi' hj' e
          · exact (c ⟨i, hi', by rw [show k + 1 = j by omega]; exact e.symm⟩).elim
          · exact (c ⟨j, hj', by rw [show k + 1 = i by omega]; exact e⟩).elim
          · omega
  rcases go N with ⟨n, b, h1, h2, h3, h4⟩ | inj
  · exact ⟨n, b, h1, h2, h3, h4⟩
  · have := inj N 0 (by omega) (by omega) h
    omega
/-- a hit is its number's -/
theorem hits_at {n k y : Nat} (e : (hits hit n)[k]? = some y) : (hits hit y).length = k ∧ hit y = true ∧ y < n := by
  have ym := List.mem_of_getElem? e
  have yn := lt_of_hits ym
  have hy : hit y = true := (List.mem_filter.mp ym).2
  refine ⟨?_, hy, yn⟩
  obtain ⟨m, rfl⟩ : ∃ m, n = y + m := ⟨n - y, by omega⟩
  rcases Nat.lt_trichotomy k (hits hit y).length with lt | eq | gt
  · rw [hits_add, List.getElem?_append_left lt] at e
    have := lt_of_hits (List.mem_of_getElem? e)
    omega
  · exact eq.symm
  · obtain ⟨m', rfl⟩ : ∃ m', m = m' + 1 := ⟨m - 1, by omega⟩
    rw [show y + (m' + 1) = (y + 1) + m' by omega, hits_add, hits_succ, hy, if_pos rfl, List.getElem?_append_right (by rw [List.length_append]; show (hits hit y).length + 1 ≤ k; omega)] at e
    obtain ⟨x, _, hx⟩ := List.mem_map.mp (List.mem_of_getElem? e)
    omega
theorem hits_mono {a b : Nat} (h : a ≤ b) : (hits hit a).length ≤ (hits hit b).length := by
  obtain ⟨m, rfl⟩ : ∃ m, b = a + m := ⟨b - a, by omega⟩
  rw [hits_add, List.length_append]
  exact Nat.le_add_right _ _
theorem hits_len_succ (a : Nat) : (hits hit (a + 1)).length = (hits hit a).length + (if hit a then 1 else 0) := by
  rw [hits_succ, List.length_append]
  cases hit a <;> rfl
/-- the next one lies within a round -/
theorem hits_next (hp : ∀ t, hit (t + W) = hit t) (hW : 0 < W) {x y z : Nat} (hy : hit y = true) (ly : (hits hit y).length = x) (hz : hit z = true) (lz : (hits hit z).length = x + 1) : y < z ∧ z ≤ y + W := by
  constructor
  · rcases Nat.lt_or_ge y z with h | h
    · exact h
    · have := hits_mono (hit := hit) h
      omega
  · rcases Nat.lt_or_ge (y + W) z with h | h
    · have a := hits_mono (hit := hit) (show y + W + 1 ≤ z from h)
      have b := hits_len_succ (hit := hit) (y + W)
      rw [hp, hy, if_pos rfl] at b
      have c := hits_mono (hit := hit) (show y + 1 ≤ y + W by omega)
      have d := hits_len_succ (hit := hit) y
      rw [hy, if_pos rfl] at d
      omega
    · exact h
theorem hits_all {n : Nat} (h : ∀ t, hit t = true) : hits hit n = List.range n := List.filter_eq_self.mpr fun t _ => h t
theorem hits_none {n : Nat} (h : ∀ t, hit t = false) : hits hit n = [] := List.filter_eq_nil_iff.mpr fun t _ => by rw [h t]; exact Bool.false_ne_true
end NT
end

section
set_option Elab.async false
set_option linter.all false
set_option maxRecDepth 100000
set_option maxHeartbeats 5000000
/-! The law's own run. -/
namespace DL
open PySem L2 LamX PyProof.Rows
/-- what the law promises: True, with the tables empty ahead of it -/
def spLaw (K : PySem.W.Frag) (cs : List (Addr × Addr)) : Sp := fun vs H Q _ => ∃ (a : Addr) (ns : List Int), vs = [.ref a] ∧ SqL K H a (ns.map V.int) ∧ ns.length ≤ 63 ∧ (∀ p ∈ cs, H p.2 = some (.tbl #[])) ∧ ∀ H', Q (.bl true) H'
/-- the slots behind the first statement: the row alone -/
def envL (n : Nat) (row : Addr) : En := (List.replicate n none).set 1 (some (.sh (.ref row)))
abbrev endT : DE := { nx := fun _ => False, rt := fun d => d = .bl true, bk := fun _ => False, ct := fun _ => False }
def gaLaw0 (P : Program) (w : World) (K : PySem.W.Frag) (mg : Str → Option Value) (base : Heap) : Ga := { P := P, w := w, K := K, mg := mg, base := base, N := [], sc := default, k := 0, fnL := fun _ => true, E := ⟨E0, 0, [], none⟩ }
theorem okx_law {P : Program} {w : World} {K : PySem.W.Frag} {mg : Str → Option Value} {base : Heap} {k : Nat} {N : List Str} {st : Stmt} {qual q : Str} {f c : Addr} {A : Around} {outer : List Env} {s : Shared} {H : Hp} {E : XK} {row : Addr} {T : List (Addr × Str)} (Γ : Ga) (e1 : Γ.P = P) (e2 : Γ.w = w) (e3 : Γ.K = K) (e4 : Γ.mg = mg) (e5 : Γ.base = base)
    (hr : Room k (A.deeper (envOfC qual (defScope st) s.heap.objs.size f (.ref c)))) (hq : ∀ f s, (envOfC qual (defScope st) s f (.ref c)).qual ++ "<lambda>" = q) :
    OkX (gaLaw Γ k N st ⟨E, row, T, none⟩ c q) (cxOf (L2.CX P w) P w K mg base N qual (defScope st) f (.ref c) A outer s H E) where
  prog := e1.symm
  w := e2.symm
  K := e3.symm
  mg := e4.symm
  base := e5.symm
  N := rfl
  sc := rfl
  roomW := .of hr
  hnone := fun _ => hr.hd
  calm := fun _ => rfl
  extra := ⟨rfl, hq _ _⟩
  pass := passes_of rfl
  takes := takes_of rfl rfl rfl rfl
  fn := fun _ _ => rfl
theorem law_fn {Γ : Ga} {k : Nat} {N : List Str} {st : Stmt} {f c : Addr} {cs : List (Addr × Addr)} {q : Str} {kV doc pm ct oc : Value} {an od : Option Addr} {osl : Array (Option Value)} {U : Addr → FS} {W : Addr → TDS} {p1 p2 p3 p4 p5 p6 p7 : Pos} {j1 j2 j3 : Nat} {rest : List Stmt}
    (lk : Γ.K.lookup f = some ⟨oc, od, .func (PySem.W.fnOf "law" "law" (defArgs st) (defBody st) (defScope st) .none kV doc pm an (.ref c) ct), osl⟩) (hcd : PySem.W.codeIn Γ.K (.ref c) "law" = true) (sc : FnScope N ["_law_script"] (defScope st))
    (hb : defBody st = .Assign [.Name "_law_row" p1] (.List [.Name "_law_script" p2, .Constant (.int 0) j1 p3, .Constant (.int 0) j2 p4, .Constant (.int 0) j3 p5] p6) p7 :: rest)
    (n0 : N[0]? = some ("_law_script" : Str)) (n1 : N[1]? = some ("_law_row" : Str)) (v0 : Vis (defScope st) "_law_script") (v1 : L2.Loc (defScope st) "_law_row")
    (hq : ∀ f s, (envOfC "law" (defScope st) s f (.ref c)).qual ++ "<lambda>" = q)
    (hT : ∀ E : XR, E.T = cs.map (fun p => (p.2, q)) → DSs (gaLaw Γ k N st E c q) rest (W E.row)) (hr : ∀ row, RS (U row) (W row)) (hM : ∀ row, (U row (envL N.length row)).all (endOf endT) XF) :
    FnOk Γ.P Γ.w Γ.K Γ.mg Γ.base (L2.CX Γ.P Γ.w) (k + 1) f (PySem.W.fnOf "law" "law" (defArgs st) (defBody st) (defScope st) .none kV doc pm an (.ref c) ct) ["_law_script"] (spLaw Γ.K cs) := by
  refine fn_of lk hcd sc (fun vs H Q E h => ?_) fun A outer s H vs Q E hr' hsp => ?_
  · obtain ⟨a, ns, rfl, _⟩ := h
    rfl
  obtain ⟨a, ns, rfl, sq, len, tb, fin⟩ := hsp
  rw [hb]
  let T : List (Addr × Str) := cs.map fun p => (p.2, q)
  have lenN : 1 < N.length := (List.getElem?_eq_some_iff.mp n1).1
  -- the rest's reading, for each row
  have ch : ∀ p : Addr, ∃ t, (∀ X, OkX (gaLaw Γ k N st ⟨E, p, T, none⟩ c q) X → PSs X rest t) ∧ SimS Γ.K ⟨E, p, T, none⟩ t (W p) := fun p => hT ⟨E, p, T, none⟩ rfl
  refine ⟨tSeq (tAsg (tLst (tCons (tVar 0) (tCons (tC (.int 0)) (tCons (tC (.int 0)) (tCons (tC (.int 0)) tNil))))) (gName 1)) (fun D σ H => ∃ p, σ[1]? = some (some (.ref p)) ∧ Classical.choose (ch p) D σ H), pss_cons (ps_set sc.nd n1 v1 (pe_lst (pa_cons (pe_var n0 v0) (pa_cons pe_int (pa_cons pe_int (pa_cons pe_int pa_nil)))))) ⟨fun pins s' σ' H' D I ⟨p, _, h⟩ => ?_⟩, ?_⟩
  · have := (Classical.choose_spec (ch p)).1 _ (okx_law (H := H) (s := s) (A := A) (outer := outer) (E := E) Γ rfl rfl rfl rfl rfl hr' hq)
    exact this.run pins s' σ' H' D I h
  · have st0 : (L2.start N [V.ref a])[0]? = some (some (V.ref a)) := rfl
    refine ⟨_, st0, ?_⟩
    refine ⟨by show 4 ≤ _; decide, fun p hp => ?_⟩
    have l2 : ((L2.start N [V.ref a]).set 1 (some (V.ref p)))[1]? = some (some (V.ref p)) := List.getElem?_set_self (by
      unfold L2.start
      simp
      omega)
    refine ⟨p, l2, ?_⟩
    have sim := (Classical.choose_spec (ch p)).2
    let S : Addr → Prop := fun b => b = a ∧ H a = some (.lst (ns.map V.int))
    have nS : ¬ S p := fun ⟨z1, z2⟩ => by
      rw [← z1, hp] at z2
      cases z2
    have atH : ∀ {b : Addr} {o : HO}, H b = some o → upd H p (.lst [.ref a, .int 0, .int 0, .int 0]) b = some o := fun {b o} h => by
      rw [upd_ne (ne_of_none h hp)]
      exact h
    let H1 : Hp := upd H p (.lst [.ref a, .int 0, .int 0, .int 0])
    have inv : (rowM Γ.K p T S nS).inv H1 := by
      refine ⟨⟨_, upd_same, a, ns, 0, 0, 0, rfl, ?_, len, by omega⟩, fun t ht => ?_, fun b sb => ⟨ns.map V.int, ?_⟩⟩
      · rcases sq with (h | ⟨o, h⟩) | h
        · exact .inr (.inr ⟨⟨rfl, h⟩, atH h⟩)
        · exact .inl ⟨o, atH h⟩
        · exact .inr (.inl h)
      · obtain ⟨z, hz, rfl⟩ := List.mem_map.mp ht
        have h := tb z hz
        exact TabS.nil (atH h)
      · obtain ⟨e1, h⟩ := sb
        rw [e1]
        exact atH h
    have at1 : ∀ (j : Nat) (u : DV), (envL N.length p)[j]? = some (some u) → j = 1 ∧ u = .sh (.ref p) := fun j u e => by
      unfold envL at e
      by_cases hj : 1 = j
      · subst hj
        rw [List.getElem?_set_self (by rw [List.length_replicate]; exact lenN)] at e
        cases e
        exact ⟨rfl, rfl⟩
      · rw [List.getElem?_set_ne hj, List.getElem?_replicate] at e
        split at e <;> cases e
    refine sim (rowM Γ.K p T S nS) H1 (envL N.length p) _ H1 _ endT XF ⟨inv, Ex.refl, ?_, fun j d e => ?_, fun j ds e => ?_, fun i j ds es q e => ?_⟩ ⟨⟨rfl, rfl, trivial⟩, fun _ _ _ _ z => z.elim⟩ ⟨fun _ _ _ _ z => z.elim, fun d v H2 _ _ r hd => ?_, fun _ _ _ _ z => z.elim, fun _ _ _ _ z => z.elim⟩ (hr p _ _ _ (hM p))
    · unfold envL L2.start
      rw [List.length_set, List.length_set, List.length_replicate]
      simp
      omega
    · obtain ⟨rfl, eu⟩ := at1 j _ e
      cases eu
      exact ⟨_, l2, .ref p⟩
    · obtain ⟨_, eu⟩ := at1 j _ e
      cases eu
    · obtain ⟨_, eu⟩ := at1 i _ e
      cases eu
    · have hd : d = .bl true := hd
      subst hd
      cases r
      exact fin H2
end DL
namespace DL
open PySem
/-- the text of an error's message -/
def fsOf (st : Stmt) : List Expr := match L2.defBody st with
  | .Expr (.Call _ [.JoinedStr fs _] _ _) _ :: _ => fs
  | _ => []
def fpOf (st : Stmt) : Pos := match L2.defBody st with
  | .Expr (.Call _ [.JoinedStr _ fp] _ _) _ :: _ => fp
  | _ => ⟨0, 0, 0, 0⟩
end DL
end

section
set_option Elab.async false
set_option linter.all false
set_option maxRecDepth 100000
set_option maxHeartbeats 5000000
namespace K53
open PySem L2 DL PyProof.Rows
/-! ### where a sign of a cell lay, some rakes ahead -/
def sx (W : Nat) (st : List Int) (t i : Nat) : Nat := i / W * W + ((((i % W : Nat) : Int) - (t : Int) * st.getD (i / W) 0) % (W : Int)).toNat
def rem (W : Nat) (a : Int) : Nat := (a % (W : Int)).toNat
theorem rem_cast {W : Nat} (hW : 0 < W) (a : Int) : ((rem W a : Nat) : Int) = a % (W : Int) := Int.toNat_of_nonneg (Int.emod_nonneg _ (by omega))
theorem rem_lt {W : Nat} (hW : 0 < W) (a : Int) : rem W a < W := by
  have := Int.emod_lt_of_pos a (show (0 : Int) < W by omega)
  have := rem_cast hW a
  omega
theorem sx_eq {W t i : Nat} {st : List Int} : sx W st t i = i / W * W + rem W (((i % W : Nat) : Int) - (t : Int) * st.getD (i / W) 0) := rfl
theorem sx_div {W t i : Nat} {st : List Int} (hW : 0 < W) : sx W st t i / W = i / W := by
  rw [sx_eq, Nat.mul_comm, Nat.mul_add_div hW, Nat.div_eq_of_lt (rem_lt hW _), Nat.add_zero]
theorem sx_mod {W t i : Nat} {st : List Int} (hW : 0 < W) : sx W st t i % W = rem W (((i % W : Nat) : Int) - (t : Int) * st.getD (i / W) 0) := by
  rw [sx_eq, Nat.mul_comm, Nat.mul_add_mod, Nat.mod_eq_of_lt (rem_lt hW _)]
theorem sx_lt {W H t i : Nat} {st : List Int} (hW : 0 < W) (h : i < W * H) : sx W st t i < W * H := by
  have h1 : i / W < H := Nat.div_lt_of_lt_mul h
  have h2 := rem_lt hW (((i % W : Nat) : Int) - (t : Int) * st.getD (i / W) 0)
  have h3 : (i / W + 1) * W ≤ H * W := Nat.mul_le_mul_right W h1
  rw [Nat.succ_mul] at h3
  rw [sx_eq, Nat.mul_comm W H]
  omega
theorem sx_zero {W i : Nat} {st : List Int} (hW : 0 < W) : sx W st 0 i = i := by
  have : rem W (((i % W : Nat) : Int) - ((0 : Nat) : Int) * st.getD (i / W) 0) = i % W := by
    unfold rem
    rw [show ((0 : Nat) : Int) = 0 from rfl, Int.zero_mul, Int.sub_zero, Int.emod_eq_of_lt (by omega) (by have := Nat.mod_lt i hW; omega)]
    rfl
  rw [sx_eq, this, Nat.mul_comm]
  exact Nat.div_add_mod i W
theorem rem_congr {W : Nat} {a b : Int} (h : a % (W : Int) = b % (W : Int)) : rem W a = rem W b := by
  unfold rem
  rw [h]
theorem sub_rem {W : Nat} (hW : 0 < W) (a b : Int) : (((rem W a : Nat) : Int) - b) % (W : Int) = (a - b) % (W : Int) := by
  rw [rem_cast hW, Int.sub_emod, Int.emod_emod, ← Int.sub_emod]
theorem sx_step {W t i : Nat} {st : List Int} (hW : 0 < W) : sx W st t (sx W st 1 i) = sx W st (t + 1) i := by
  rw [sx_eq, sx_div hW, sx_mod hW, sx_eq]
  congr 1
  refine rem_congr ?_
  rw [sub_rem hW]
  congr 1
  rw [show ((1 : Nat) : Int) = 1 from rfl, show ((t + 1 : Nat) : Int) = (t : Int) + 1 from rfl, Int.add_mul]
  omega
theorem sx_per {W t i : Nat} {st : List Int} (hW : 0 < W) : sx W st (t + W) i = sx W st t i := by
  rw [sx_eq, sx_eq]
  congr 1
  refine rem_congr ?_
  rw [show ((t + W : Nat) : Int) = (t : Int) + W from rfl, Int.add_mul, show ((i % W : Nat) : Int) - ((t : Int) * st.getD (i / W) 0 + (W : Int) * st.getD (i / W) 0) = (((i % W : Nat) : Int) - (t : Int) * st.getD (i / W) 0) - (W : Int) * st.getD (i / W) 0 by omega, Int.sub_mul_emod_self_left]
/-! ### the program -/
theorem is_cell_eq {Z : Zs} {row : Addr} {c n : Nat} (h : c < n) : F_is_cell Z row [.int c, .int n] = .ret (.bl true) := by
  have e := is_number_eq (Z := Z) (row := row) (v := .int c) (a := 0) (b := (n : Int) - 1) rfl
  have e2 : isNum (.int c) 0 ((n : Int) - 1) = true := by simp [isNum]; omega
  have e3 : oSub (.int n) (.int 1) = some (.int ((n : Int) - 1)) := rfl
  rw [e2] at e
  unfold F_is_cell U_is_cell
  simp [fDef, env0, fRet, fCall, fCons, fNil, fVar, fC, fOp, e, e3, Tm.chk]
theorem check_cell_eq {Z : Zs} {row : Addr} {c n : Nat} (h : c < n) : F_check_cell Z row [.int c, .int n] = .ret .non := by
  have e := is_cell_eq (Z := Z) (row := row) h
  unfold F_check_cell U_check_cell
  simp [fDef, env0, fIf, fNot, fTest, fCall, fCons, fNil, fVar, fNext, e, Tm.chk]
theorem check_sign_eq {Z : Zs} {row : Addr} {s : Nat} (h : sgC s = true) : F_check_sign Z row [.str [s]] = .ret .non := by
  have o : okSg (.str [s]) = true := okSg_of (sg_okC (by simp [h])) (by simp)
  have e := is_sign_eq (Z := Z) (row := row) (v := .str [s]) o
  have e2 : isSg (.str [s]) = true := h
  rw [e2] at e
  unfold F_check_sign U_check_sign
  simp [fDef, env0, fIf, fNot, fTest, fCall, fCons, fNil, fVar, fNext, e, Tm.chk]
theorem check_number_eq {Z : Zs} {row : Addr} {n m : Int} (h0 : 0 ≤ n) (h : n ≤ m) : F_check_number Z row [.int n, .int m] = .ret .non := by
  have e := is_number_eq (Z := Z) (row := row) (v := .int n) (a := 0) (b := m) rfl
  have e2 : isNum (.int n) 0 m = true := by simp [isNum]; omega
  rw [e2] at e
  unfold F_check_number U_check_number
  simp [fDef, env0, fIf, fNot, fTest, fCall, fCons, fNil, fVar, fC, fNext, e, Tm.chk]
structure Sd (H : Nat) (st : List Int) : Prop where
  len : st.length = H
  lo : ∀ k ∈ st, -9 ≤ k
  hi : ∀ k ∈ st, k ≤ 9
theorem are_strides_eq {Z : Zs} {row : Addr} {H : Nat} {st : List Int} (h : Sd H st) (hH : H ≤ 1000) : F_are_strides Z row [.tup (inL st), .int H] = .ret (.bl true) := by
  have hl := h.len
  have e : lcL (hName 2) fYes (fCall (F_is_number Z row) 3 (fCons (fVar 2) (fCons (fNeg (fC (.int (9)))) (fCons (fC (.int (9))) fNil)))) (wipeD [some (.sh (.tup (inL st))), some (.sh (.int H)), none] [2]) (inL st) = .ret ((inL st).map fun d => .bl true) := lcL_map fun d hd => by
    obtain ⟨k, hk, rfl⟩ := List.mem_map.mp hd
    refine ⟨_, rfl, rfl, ?_⟩
    have e := is_number_eq (Z := Z) (row := row) (v := .int k) (a := -9) (b := 9) rfl
    have e2 : isNum (.int k) (-9) 9 = true := by
      have := h.lo k hk
      have := h.hi k hk
      simp [isNum]; omega
    rw [e2] at e
    simp [fCall, fCons, fNil, fVar, fC, fNeg, wipeD, e, Tm.chk]
  have e2 : boolsOf ((inL st).map fun d => D.bl true) = some ((inL st).map fun _ => true) := boolsOf_map (f := fun _ => true)
  have e3 : ((inL st).map fun _ => true).all id = true := by simp
  have cn : ck (inL st) = true := decide_eq_true (by rw [ints_len]; omega)
  have el : oLen [.tup (inL st)] = some (.int (H : Int)) := by
    show some (D.int ((inL st).length : Int)) = _
    rw [ints_len, hl]
  have en : oNe (.int (H : Int)) (.int (H : Int)) = some (.bl false) := by
    show some (D.bl (!((H : Int) == (H : Int)))) = _
    rw [beq_self_eq_true]
    rfl
  have ei : oIsi [.tup (inL st), .ty .tuple] = some (.bl true) := rfl
  have ea : oAll (fun bs => bs.all id) [.lst ((inL st).map fun d => D.bl true)] = some (.bl true) := by
    simp [oAll, itemsD, e2]
  have et : (DL.tupOf (.tup (inL st))) = some (inL st) := rfl
  unfold F_are_strides U_are_strides
  simp only [fDef, env0, fSeq, fIf, fOr, fNot, fTest, fCB, fCons, fNil, fVar, fC, fOp, fRet, fNext, fOfL, fLc, fItems, et, noOw, List.map, List.length_cons, List.length_nil, List.replicate, Nat.sub_self, List.append_nil, List.cons_append, List.nil_append, List.getElem?_cons_zero, List.getElem?_cons_succ, Tm.bind_ret, Tm.bind_assoc, Tm.ofO_some, Tm.chk, ei, el, en, Bool.not_true, List.all_cons, List.all_nil, cn, Bool.and_self]
  rw [e]
  simp only [Tm.nox_ret, Tm.bind_ret, ea, Tm.ofO_some]
end K53
end

section
set_option Elab.async false
set_option linter.all false
set_option maxRecDepth 100000
set_option maxHeartbeats 5000000
namespace K53
open PySem L2 DL PyProof.Rows NT
/-- whether a sign lies on a cell behind t rakes -/
def hitD (cs : List Nat) (W : Nat) (st : List Int) (c s : Nat) (t : Nat) : Bool := cs.getD (sx W st t c) 0 == s
theorem hit_per {cs : List Nat} {W c s : Nat} {st : List Int} (hW : 0 < W) : ∀ t, hitD cs W st c s (t + W) = hitD cs W st c s t := fun t => by
  unfold hitD
  rw [sx_per hW]
structure Ok (W H : Nat) (cs : List Nat) (st : List Int) (c s : Nat) : Prop where
  gb : Gb W H cs
  sd : Sd H st
  c : c < W * H
  s : sgC s = true
section
variable {Z : Zs} {row : Addr} {W H c s : Nat} {cs : List Nat} {st : List Int}
theorem Ok.nums (o : Ok W H cs st c s) : 0 < W ∧ W ≤ 5 ∧ 0 < H ∧ H ≤ 5 ∧ cs.length = W * H ∧ W * H ≤ 12 := by
  have h1 := o.gb.w1
  have h2 := o.gb.w5
  have h3 := o.gb.h1
  have h4 := o.gb.h5
  have h5 := o.gb.len
  have h6 := o.gb.wh
  rw [← Int.natCast_mul] at h5 h6
  omega
theorem times_eq (o : Ok W H cs st c s) : F_times_in_turn Z row [bd Z W H cs, .tup (inL st), .int c, .str [s]] = .ret (.lst (nL (hits (hitD cs W st c s) W))) := by
  obtain ⟨w0, w5, h0, h5, ln, wh⟩ := o.nums
  have cl := o.c
  have rH : c / W < H := Nat.div_lt_of_lt_mul cl
  have sl := o.sd.len
  have e1 := are_strides_eq (Z := Z) (row := row) o.sd (by omega)
  have bl := bath_len_eq (Z := Z) (row := row) (w := .int W) (h := .int H) (cs := cs) (by omega)
  have e2 := check_cell_eq (Z := Z) (row := row) (n := cs.length) (by rw [ln]; exact cl)
  have e3 := check_sign_eq (Z := Z) (row := row) o.s
  have e4 : oDivmod [.int c, .int W] = some (.tup [.int ((c / W : Nat) : Int), .int ((c % W : Nat) : Int)]) := by
    show gd (decide ((0 : Int) < W) && decide ((W : Int) < 1073741824)) (.tup [.int ((c : Int) / W), .int ((c : Int) % W)]) = _
    rw [decide_eq_true (by omega), decide_eq_true (by omega)]
    rfl
  have m1 : oMul (.int ((c / W : Nat) : Int)) (.int W) = some (.int ((c / W * W : Nat) : Int)) := by
    rw [mul_eq (by rw [Int.natAbs_natCast]; omega), Int.natCast_mul]
  have a1 : oAdd (.int ((c / W : Nat) : Int)) (.int 1) = some (.int ((c / W + 1 : Nat) : Int)) := rfl
  have m2 : oMul (.int ((c / W + 1 : Nat) : Int)) (.int W) = some (.int (((c / W + 1) * W : Nat) : Int)) := by
    rw [mul_eq (by rw [Int.natAbs_natCast]; omega), Int.natCast_mul]
  have hr : (c / W + 1) * W ≤ W * H := by
    rw [Nat.mul_comm W H]
    exact Nat.mul_le_mul_right W rH
  have sm : (c / W + 1) * W = c / W * W + W := Nat.succ_mul (c / W) W
  have sl1 : oCut (.str cs) (some ((c / W * W : Nat) : Int)) (some (((c / W + 1) * W : Nat) : Int)) = some (.str ((cs.take ((c / W + 1) * W)).drop (c / W * W))) := by
    show gd (decide (cs.length ≤ 100000)) (.str (DL.cutD cs _ _)) = _
    rw [cut_mid (by omega) (by omega), decide_eq_true (by omega)]
    rfl
  have er := rng1_eq (k := (W : Int)) (by omega) (by omega)
  rw [Int.toNat_natCast, intsD0] at er
  have cn : ck (nL (List.range W)) = true := decide_eq_true (by rw [nL_len, List.length_range]; omega)
  have kx : ∃ k, st[c / W]? = some k := ⟨_, List.getElem?_eq_getElem (by omega)⟩
  obtain ⟨k, ek⟩ := kx
  have gk : st.getD (c / W) 0 = k := by rw [List.getD_eq_getElem?_getD, ek]; rfl
  have xk : oIx (.tup (inL st)) (.int ((c / W : Nat) : Int)) = some (.int k) := DL.atI_nat (ints_get ek)
  have lc := lc_lt (G := hName 7) (TU := fTest (fOp oEq (fOp oIx (fVar 6) (fOp oMod (fOp oSub (fVar 5) (fOp oMul (fVar 7) (fOp oIx (fVar 1) (fVar 4)))) (fFld Z.Bath (Str.ofString "column_count") (fVar 0)))) (fVar 3))) (T := fVar 7)
    (ρ := wipeD [some (.sh (bd Z W H cs)), some (.sh (.tup (inL st))), some (.sh (.int c)), some (.sh (.str [s])), some (.sh (.int ((c / W : Nat) : Int))), some (.sh (.int ((c % W : Nat) : Int))), some (.sh (.str ((cs.take ((c / W + 1) * W)).drop (c / W * W)))), none] [7]) (xs := List.range W) (p := hitD cs W st c s) fun t ht => by
    have tl := List.mem_range.mp ht
    refine ⟨_, rfl, ?_, rfl⟩
    have m3 : oMul (.int (t : Int)) (.int k) = some (.int ((t : Int) * k)) := mul_eq (by omega)
    have s3 : oSub (.int ((c % W : Nat) : Int)) (.int ((t : Int) * k)) = some (.int (((c % W : Nat) : Int) - (t : Int) * k)) := rfl
    have r3 : oMod (.int (((c % W : Nat) : Int) - (t : Int) * k)) (.int W) = some (.int ((rem W (((c % W : Nat) : Int) - (t : Int) * k) : Nat) : Int)) := by
      rw [rem_cast w0]
      exact gd_t (decide_eq_true (show (0 : Int) < W by omega))
    have rl := rem_lt w0 (((c % W : Nat) : Int) - (t : Int) * k)
    have gx : cs[sx W st t c]? = some (cs.getD (sx W st t c) 0) := by
      have := sx_lt (t := t) (st := st) w0 cl
      rw [List.getD_eq_getElem?_getD, List.getElem?_eq_getElem (by omega)]
      rfl
    have ix : ((cs.take ((c / W + 1) * W)).drop (c / W * W))[rem W (((c % W : Nat) : Int) - (t : Int) * k)]? = some (cs.getD (sx W st t c) 0) := by
      rw [List.getElem?_drop, List.getElem?_take_of_lt (by omega), ← gx, sx_eq, gk]
    have x3 : oIx (.str ((cs.take ((c / W + 1) * W)).drop (c / W * W))) (.int ((rem W (((c % W : Nat) : Int) - (t : Int) * k) : Nat) : Int)) = some (.str [cs.getD (sx W st t c) 0]) := by
      show (if decide (((cs.take ((c / W + 1) * W)).drop (c / W * W)).length ≤ 100000) = true then (atI ((cs.take ((c / W + 1) * W)).drop (c / W * W)) _).map fun c => D.str [c] else none) = _
      rw [if_pos (decide_eq_true (by rw [List.length_drop, List.length_take]; omega)), DL.atI_nat ix]
      rfl
    have o1 : okC [cs.getD (sx W st t c) 0] = true := by
      have := List.all_eq_true.mp o.gb.ok _ (List.mem_of_getElem? gx)
      simp [okC]
      simpa using this
    have o2 : okC [s] = true := sg_okC (by simp [o.s])
    have q3 : oEq (.str [cs.getD (sx W st t c) 0]) (.str [s]) = some (.bl (hitD cs W st c s t)) := by
      show gd (okC [cs.getD (sx W st t c) 0] && okC [s]) (.bl ([cs.getD (sx W st t c) 0] == [s])) = _
      rw [o1, o2]
      show some (D.bl ([cs.getD (sx W st t c) 0] == [s])) = some (D.bl (cs.getD (sx W st t c) 0 == s))
      congr 2
      simp
    simp [-List.getD_eq_getElem?_getD, -Int.natCast_emod, -Int.natCast_ediv, -Int.natCast_mul, fTest, fOp, fFld, oFld, fVar, bd, lkc, lkr, lks, wipeD, m3, s3, r3, x3, q3, xk]
  rw [show (List.range W).filter (hitD cs W st c s) = hits (hitD cs W st c s) W from rfl] at lc
  unfold F_times_in_turn U_times_in_turn
  unfold bd at lc ⊢
  have ln2 := lenI_eq (f := F_Bath___len__ Z row) (C := Z.Bath) (a := fVar 0) (ρ := [some (.sh (.ins Z.Bath (bathF (.int W) (.int H) (.str cs)))), some (.sh (.tup (inL st))), some (.sh (.int c)), some (.sh (.str [s])), none, none, none, none]) (by simp [fVar]) bl (by omega) (by omega)
  simp [-Int.natCast_emod, -Int.natCast_ediv, -Int.natCast_mul, -Int.natCast_add, fDef, env0, fSeq, fIf, fNot, fTest, fDrop, fNext, fAsg, hTup, hCons, hName, hNil, fSet, fSl, fPt, fRet, fOfL, fLc, fRng1, fCall, fCB, fOp, fCons, fNil, fC, fFld, oFld, fVar, lkc, lkr, lks, Tm.chk, noOw, e1, ln2, e2, e3, e4, m1, a1, m2, sl1, er, cn, lc]
theorem seen_eq (o : Ok W H cs st c s) {n : Nat} (hn : (n : Int) ≤ 1000000000000000000) : F_seen_times Z row [bd Z W H cs, .tup (inL st), .int c, .str [s], .int n] = .ret (.int (((hits (hitD cs W st c s) n).length : Nat) : Int)) := by
  obtain ⟨w0, w5, h0, h5, ln, wh⟩ := o.nums
  have e1 := times_eq (Z := Z) (row := row) o
  have e2 := check_number_eq (Z := Z) (row := row) (n := (n : Int)) (m := 1000000000000000000) (by omega) hn
  have e4 : oDivmod [.int n, .int W] = some (.tup [.int ((n / W : Nat) : Int), .int ((n % W : Nat) : Int)]) := by
    show gd (decide ((0 : Int) < W) && decide ((W : Int) < 1073741824)) (.tup [.int ((n : Int) / W), .int ((n : Int) % W)]) = _
    rw [decide_eq_true (by omega), decide_eq_true (by omega)]
    rfl
  generalize hT : hits (hitD cs W st c s) W = T at e1
  have tl : T.length ≤ W := by
    rw [← hT]
    have := List.length_filter_le (hitD cs W st c s) (List.range W)
    rw [List.length_range] at this
    exact this
  have cnt := hits_count (hit := hitD cs W st c s) (hit_per w0) w0 n
  rw [hT] at cnt
  have el : oLen [.lst (nL T)] = some (.int ((T.length : Nat) : Int)) := by
    show some (D.int ((nL T).length : Int)) = _
    rw [nL_len]
  have em : oMul (.int ((n / W : Nat) : Int)) (.int ((T.length : Nat) : Int)) = some (.int ((n / W * T.length : Nat) : Int)) := by
    have : ((T.length : Nat) : Int).natAbs < 18446744073709551616 := by omega
    show gd (decide (((n / W : Nat) : Int).natAbs < 2 ^ 64) || decide (((T.length : Nat) : Int).natAbs < 2 ^ 64)) _ = _
    rw [decide_eq_true (show ((T.length : Nat) : Int).natAbs < 2 ^ 64 from this), Bool.or_true, Int.natCast_mul]
    rfl
  have lc := lc_lt (G := hName 8) (TU := fTest (fOp oLt (fVar 8) (fVar 7))) (T := fVar 8) (ρ := wipeD [some (.sh (bd Z W H cs)), some (.sh (.tup (inL st))), some (.sh (.int c)), some (.sh (.str [s])), some (.sh (.int n)), some (.sh (.lst (nL T))), some (.sh (.int ((n / W : Nat) : Int))), some (.sh (.int ((n % W : Nat) : Int))), none] [8]) (xs := T) (p := fun t => decide (t < n % W)) fun t ht => by
    refine ⟨_, rfl, ?_, rfl⟩
    have : oLt (.int (t : Int)) (.int ((n % W : Nat) : Int)) = some (.bl (decide (t < n % W))) := by
      show some (D.bl (decide ((t : Int) < ((n % W : Nat) : Int)))) = _
      congr 2
      exact decide_eq_decide.mpr Int.ofNat_lt
    simp [fTest, fOp, fVar, wipeD, this, -Int.natCast_emod, -Int.natCast_ediv]
  have cn : ck (nL T) = true := decide_eq_true (by rw [nL_len]; omega)
  have el2 : oLen [.lst (nL (T.filter fun t => decide (t < n % W)))] = some (.int (((T.filter fun t => decide (t < n % W)).length : Nat) : Int)) := by
    show some (D.int ((nL _).length : Int)) = _
    rw [nL_len]
  have ea : oAdd (.int ((n / W * T.length : Nat) : Int)) (.int (((T.filter fun t => decide (t < n % W)).length : Nat) : Int)) = some (.int (((hits (hitD cs W st c s) n).length : Nat) : Int)) := by
    rw [cnt, Int.natCast_add]
    rfl
  unfold F_seen_times U_seen_times
  unfold bd at e1 lc ⊢
  simp [-Int.natCast_emod, -Int.natCast_ediv, -Int.natCast_mul, -Int.natCast_add, fDef, env0, fSeq, fDrop, fAsg, hTup, hCons, hName, hNil, fSet, fRet, fOfL, fLc, fItems, lstOf, fCall, fCB, fOp, fCons, fNil, fC, fFld, oFld, fVar, lkc, lkr, lks, Tm.chk, noOw, wipeD] at lc ⊢
  simp [-Int.natCast_emod, -Int.natCast_ediv, -Int.natCast_mul, -Int.natCast_add, e1, e2, e4, el, em, cn, lc, el2, ea, lkc]
end
end K53
end

section
set_option Elab.async false
set_option linter.all false
set_option maxRecDepth 100000
set_option maxHeartbeats 5000000
namespace K53
open PySem L2 DL PyProof.Rows NT
section
variable {Z : Zs} {row : Addr} {W H c s : Nat} {cs : List Nat} {st : List Int}
theorem hits_le (hit : Nat → Bool) (n : Nat) : (hits hit n).length ≤ n := by
  have := List.length_filter_le hit (List.range n)
  rw [List.length_range] at this
  exact this
theorem nth_none (o : Ok W H cs st c s) {n : Nat} (hn : (n : Int) ≤ 1000000000000000) (h : hits (hitD cs W st c s) W = []) : F_nth_seen Z row [bd Z W H cs, .tup (inL st), .int c, .str [s], .int n] = .ret .non := by
  have e1 := times_eq (Z := Z) (row := row) o
  rw [h] at e1
  have e2 := check_number_eq (Z := Z) (row := row) (n := (n : Int)) (m := 1000000000000000) (by omega) hn
  unfold F_nth_seen U_nth_seen
  simp [fDef, env0, fSeq, fDrop, fSet, fIf, fNot, fTru, truD, fRet, fCall, fCons, fNil, fC, fVar, Tm.chk, e1, e2, nL]
theorem nth_eq (o : Ok W H cs st c s) {n x : Nat} (hn : (n : Int) ≤ 1000000000000000) (h : (hits (hitD cs W st c s) W)[n % (hits (hitD cs W st c s) W).length]? = some x) :
    F_nth_seen Z row [bd Z W H cs, .tup (inL st), .int c, .str [s], .int n] = .ret (.int ((n / (hits (hitD cs W st c s) W).length * W + x : Nat) : Int)) := by
  obtain ⟨w0, w5, h0, h5, ln, wh⟩ := o.nums
  have e1 := times_eq (Z := Z) (row := row) o
  have e2 := check_number_eq (Z := Z) (row := row) (n := (n : Int)) (m := 1000000000000000) (by omega) hn
  have tl := hits_le (hitD cs W st c s) W
  generalize hits (hitD cs W st c s) W = T at e1 h tl
  have m0 : 0 < T.length := by
    cases T with
    | nil => cases h
    | cons a r => exact Nat.succ_pos _
  have ne : (nL T).isEmpty = false := by
    cases T with
    | nil => cases m0
    | cons a r => rfl
  have et : truD (.lst (nL T)) = some true := by
    show some (!(nL T).isEmpty) = _
    rw [ne]
    rfl
  have el : oLen [.lst (nL T)] = some (.int ((T.length : Nat) : Int)) := by
    show some (D.int ((nL T).length : Int)) = _
    rw [nL_len]
  have e4 : oDivmod [.int n, .int ((T.length : Nat) : Int)] = some (.tup [.int ((n / T.length : Nat) : Int), .int ((n % T.length : Nat) : Int)]) := by
    show gd (decide ((0 : Int) < ((T.length : Nat) : Int)) && decide (((T.length : Nat) : Int) < 1073741824)) (.tup [.int ((n : Int) / ((T.length : Nat) : Int)), .int ((n : Int) % ((T.length : Nat) : Int))]) = _
    rw [decide_eq_true (by omega), decide_eq_true (by omega)]
    rfl
  have em : oMul (.int ((n / T.length : Nat) : Int)) (.int ((W : Nat) : Int)) = some (.int ((n / T.length * W : Nat) : Int)) := by
    have : ((W : Nat) : Int).natAbs < 18446744073709551616 := by omega
    show gd (decide (((n / T.length : Nat) : Int).natAbs < 2 ^ 64) || decide (((W : Nat) : Int).natAbs < 2 ^ 64)) _ = _
    rw [decide_eq_true (show ((W : Nat) : Int).natAbs < 2 ^ 64 from this), Bool.or_true, Int.natCast_mul]
    rfl
  have ex : oIx (.lst (nL T)) (.int ((n % T.length : Nat) : Int)) = some (.int (x : Int)) := ix_nat (nL_get h)
  have ea : oAdd (.int ((n / T.length * W : Nat) : Int)) (.int (x : Int)) = some (.int ((n / T.length * W + x : Nat) : Int)) := by
    rw [Int.natCast_add]
    rfl
  unfold F_nth_seen U_nth_seen
  unfold bd at e1 ⊢
  simp [-Int.natCast_emod, -Int.natCast_ediv, -Int.natCast_mul, -Int.natCast_add, fDef, env0, fSeq, fDrop, fSet, fIf, fNot, fTru, fNext, fAsg, hTup, hCons, hName, hNil, fRet, fCall, fCB, fOp, fCons, fNil, fC, fVar, fFld, oFld, lkc, Tm.chk, e1, e2, et, el, e4, em, ex, ea]
theorem strides_all {H : Nat} {Q : D → Prop} {X : XP} (hH : H ≤ 1000) (q : ∀ st, Sd H st → Q (.tup (inL st))) : (F__law_strides Z row [.ref row, .int H]).all Q X := by
  have t := taken_eq (Z := Z) (row := row) (m := 19) (by decide) (by decide)
  have er := rng1_eq (k := (H : Int)) (by omega) (by omega)
  rw [Int.toNat_natCast, intsD0] at er
  have cn : ck (nL (List.range H)) = true := decide_eq_true (by rw [nL_len, List.length_range]; omega)
  unfold F__law_strides U__law_strides
  simp only [fDef, env0, fRet, fCB, fOfL, fLc, fRng1, fCons, fNil, fVar, er, cn, noOw, List.map, List.length_cons, List.length_nil, List.replicate, Nat.sub_self, List.append_nil, List.cons_append, List.nil_append, List.all_cons, List.all_nil, List.getElem?_cons_zero, List.getElem?_cons_succ, Tm.bind_ret, Tm.bind_assoc, Tm.all_bind, Tm.ofO_some, Tm.chk, Bool.and_self]
  refine Tm.nox_all (lcL_all (P := fun y => ∃ k : Int, y = .int k ∧ -9 ≤ k ∧ k ≤ 9) (fun d hd => ⟨_, rfl, rfl, ?_⟩) fun r hr hp => ?_)
  · simp only [wipeD, hName, fOp, fC, fCall, fCons, fNil, fVar, List.set_cons_zero, List.set_cons_succ, List.getElem?_cons_zero, List.getElem?_cons_succ, Tm.bind_ret, Tm.all_bind, Tm.chk, List.length_cons, List.length_nil, t]
    rintro _ ⟨k, rfl, k0, k1⟩
    exact ⟨k - 9, rfl, by omega, by omega⟩
  · obtain ⟨st, rfl, hs⟩ : ∃ st : List Int, r = inL st ∧ ∀ k ∈ st, -9 ≤ k ∧ k ≤ 9 := by
      clear hr
      induction r with
      | nil => exact ⟨[], rfl, fun _ z => by cases z⟩
      | cons y r ih =>
        obtain ⟨k, rfl, a, b⟩ := hp y (List.mem_cons_self ..)
        obtain ⟨st, rfl, m⟩ := ih fun z hz => hp z (List.mem_cons_of_mem _ hz)
        refine ⟨k :: st, rfl, fun z hz => ?_⟩
        obtain rfl | hz := List.mem_cons.mp hz
        · exact ⟨a, b⟩
        · exact m z hz
    rw [ints_len, nL_len, List.length_range] at hr
    exact q st ⟨hr, fun k hk => (hs k hk).1, fun k hk => (hs k hk).2⟩
end
end K53
end

section
set_option Elab.async false
set_option linter.all false
set_option maxRecDepth 100000
set_option maxHeartbeats 5000000
namespace K53
open PySem L2 DL PyProof.Rows NT
/-! ### a rake, done -/
abbrev RAKE : D := .str [114, 97, 107, 101]
abbrev DEED (st : List Int) : D := .tup [RAKE, .tup (inL st)]
abbrev REC (st : List Int) : D := .tup [DEED st]
def rk (W H : Nat) (st : List Int) (t : Nat) (cs : List Nat) : List Nat := (List.range (W * H)).map fun i => cs.getD (sx W st t i) 0
/-- a bath and strides for it -/
structure Bk (W H : Nat) (cs : List Nat) (st : List Int) : Prop where
  gb : Gb W H cs
  sd : Sd H st
section
variable {Z : Zs} {row : Addr} {W H : Nat} {cs : List Nat} {st : List Int}
theorem Bk.nums (o : Bk W H cs st) : 0 < W ∧ W ≤ 5 ∧ 0 < H ∧ H ≤ 5 ∧ cs.length = W * H ∧ W * H ≤ 12 := by
  have h1 := o.gb.w1
  have h2 := o.gb.w5
  have h3 := o.gb.h1
  have h4 := o.gb.h5
  have h5 := o.gb.len
  have h6 := o.gb.wh
  rw [← Int.natCast_mul] at h5 h6
  omega
theorem raked_eq (o : Bk W H cs st) : F_raked_from Z row [.int W, .int H, .tup (inL st)] = .ret (.lst (nL ((List.range (W * H)).map fun i => sx W st 1 i))) := by
  obtain ⟨w0, w5, h0, h5, ln, wh⟩ := o.nums
  have sl := o.sd.len
  have erW := rng1_eq (k := (W : Int)) (by omega) (by omega)
  have erH := rng1_eq (k := (H : Int)) (by omega) (by omega)
  rw [Int.toNat_natCast, intsD0] at erW erH
  have lc := lcL2_map (G := hName 3) (G1 := hName 4) (TU := fYes) (TU1 := fYes) (Fi1 := fRng1 (fCons (fVar 0) fNil)) (T := fOp oAdd (fOp oMul (fVar 3) (fVar 0)) (fOp oMod (fOp oSub (fVar 4) (fOp oIx (fVar 2) (fVar 3))) (fVar 0))) (vs1 := [4])
    (ρ := wipeD [some (.sh (.int W)), some (.sh (.int H)), some (.sh (.tup (inL st))), none, none] [3, 4]) (g := fun d => match d with | .int r => nL ((List.range W).map fun c => sx W st 1 (r.toNat * W + c)) | _ => []) (ds := nL (List.range H)) fun d hd => by
    obtain ⟨r, hr, rfl⟩ := List.mem_map.mp hd
    have rH := List.mem_range.mp hr
    obtain ⟨k, ek⟩ : ∃ k, st[r]? = some k := ⟨_, List.getElem?_eq_getElem (by omega)⟩
    have gk : st.getD r 0 = k := by rw [List.getD_eq_getElem?_getD, ek]; rfl
    have xk : oIx (.tup (inL st)) (.int (r : Int)) = some (.int k) := DL.atI_nat (ints_get ek)
    have m1 : oMul (.int (r : Int)) (.int (W : Int)) = some (.int ((r * W : Nat) : Int)) := by
      rw [mul_eq (by omega), Int.natCast_mul]
    refine ⟨_, nL (List.range W), rfl, rfl, ?_, rfl, by rw [nL_len, List.length_range]; omega, ?_⟩
    · simp [fRng1, fCons, fNil, fVar, wipeD, erW]
    · have e := lcL_map (G := hName 4) (TU := fYes) (T := fOp oAdd (fOp oMul (fVar 3) (fVar 0)) (fOp oMod (fOp oSub (fVar 4) (fOp oIx (fVar 2) (fVar 3))) (fVar 0))) (ρ := wipeD ((wipeD [some (.sh (.int W)), some (.sh (.int H)), some (.sh (.tup (inL st))), none, none] [3, 4]).set 3 (some (.sh (.int (r : Int))))) [4]) (f := fun d => match d with | .int c => .int ((sx W st 1 (r * W + c.toNat) : Nat) : Int) | d => d) (ds := nL (List.range W)) fun d hd => by
        obtain ⟨c, hc, rfl⟩ := List.mem_map.mp hd
        have cW := List.mem_range.mp hc
        refine ⟨_, rfl, rfl, ?_⟩
        have d1 : (r * W + c) / W = r := by rw [Nat.mul_comm, Nat.mul_add_div w0, Nat.div_eq_of_lt cW, Nat.add_zero]
        have d2 : (r * W + c) % W = c := by rw [Nat.mul_comm, Nat.mul_add_mod, Nat.mod_eq_of_lt cW]
        have s3 : oSub (.int (c : Int)) (.int k) = some (.int ((c : Int) - k)) := rfl
        have r3 : oMod (.int ((c : Int) - k)) (.int W) = some (.int ((rem W ((c : Int) - k) : Nat) : Int)) := by
          rw [rem_cast w0]
          exact gd_t (decide_eq_true (show (0 : Int) < W by omega))
        have a3 : oAdd (.int ((r * W : Nat) : Int)) (.int ((rem W ((c : Int) - k) : Nat) : Int)) = some (.int ((sx W st 1 (r * W + c) : Nat) : Int)) := by
          rw [sx_eq, d1, d2, gk, show ((1 : Nat) : Int) * k = k from Int.one_mul k, Int.natCast_add]
          rfl
        simp [-Int.natCast_mul, -Int.natCast_add, fOp, fVar, wipeD, xk, m1, s3, r3, a3]
      rw [e]
      show _ = Tm.ret (nL ((List.range W).map fun c => sx W st 1 (r * W + c)))
      unfold nL
      rw [List.map_map, List.map_map]
      rfl
  have flat : ((nL (List.range H)).map fun d => match d with | .int r => nL ((List.range W).map fun c => sx W st 1 (r.toNat * W + c)) | _ => []).flatten = nL ((List.range (W * H)).map fun i => sx W st 1 i) := by
    have e := range_mul (W := W) (F := fun i => D.int ((sx W st 1 i : Nat) : Int)) H
    unfold nL
    rw [List.map_map, List.map_map, Nat.mul_comm W H]
    refine Eq.trans ?_ e
    congr 1
    refine List.map_congr_left fun r hr => ?_
    show List.map _ (List.map _ _) = _
    rw [List.map_map]
    rfl
  rw [flat] at lc
  unfold F_raked_from U_raked_from
  have small : (nL (List.range H)).length ≤ 99 := by rw [nL_len, List.length_range]; omega
  simp [wipeD] at lc
  simp [fDef, env0, fRet, fOfL, fLc2, fRng1, fCons, fNil, fVar, noOw, Tm.chk, erH, small, wipeD, lc]
end
end K53
end

section
set_option Elab.async false
set_option linter.all false
set_option maxRecDepth 100000
set_option maxHeartbeats 5000000
namespace K53
open PySem L2 DL PyProof.Rows NT
section
variable {Z : Zs} {row : Addr} {W H : Nat} {cs : List Nat} {st : List Int}
theorem moved_eq (o : Bk W H cs st) : F_moved_from Z row [.int W, .int H, DEED st] = .ret (.lst (nL ((List.range (W * H)).map fun i => sx W st 1 i))) := by
  have e := raked_eq (Z := Z) (row := row) o
  have x0 : oIx (DEED st) (.int 0) = some RAKE := rfl
  have x1 : oIx (DEED st) (.int 1) = some (.tup (inL st)) := rfl
  have q1 : oEq RAKE (.str [100, 114, 111, 112]) = some (.bl false) := rfl
  have q2 : oEq RAKE RAKE = some (.bl true) := rfl
  unfold F_moved_from U_moved_from
  simp [fDef, env0, fSeq, fSet, fIf, fTest, fRet, fNext, fOp, fCall, fCons, fNil, fC, fVar, x0, x1, q1, q2, e, Tm.chk]
theorem after_eq (o : Bk W H cs st) {nw : D} : F_things_after Z row [.int W, .int H, .lst (sgD cs), DEED st, nw] = .ret (.lst (sgD (rk W H st 1 cs))) := by
  obtain ⟨w0, w5, h0, h5, ln, wh⟩ := o.nums
  have e := moved_eq (Z := Z) (row := row) o
  have cn : ck (nL ((List.range (W * H)).map fun i => sx W st 1 i)) = true := decide_eq_true (by rw [nL_len, List.length_map, List.length_range]; omega)
  have lc := lcL_map (G := hName 5) (TU := fYes) (T := fIfE (fTest (fOp oIsN (fVar 5) (fC .non))) (fVar 4) (fOp oIx (fVar 2) (fVar 5))) (ρ := wipeD [some (.sh (.int W)), some (.sh (.int H)), some (.sh (.lst (sgD cs))), some (.sh (DEED st)), some (.sh nw), none] [5]) (f := fun d => match d with | .int x => .str [cs.getD x.toNat 0] | d => d) (ds := nL ((List.range (W * H)).map fun i => sx W st 1 i)) fun d hd => by
    obtain ⟨x, hx, rfl⟩ := List.mem_map.mp hd
    obtain ⟨i, hi, rfl⟩ := List.mem_map.mp hx
    have lt := sx_lt (t := 1) (st := st) w0 (List.mem_range.mp hi)
    have gx : (sgD cs)[sx W st 1 i]? = some (.str [cs.getD (sx W st 1 i) 0]) := by
      rw [List.getElem?_map, List.getElem?_eq_getElem (by omega), List.getD_eq_getElem?_getD, List.getElem?_eq_getElem (by omega)]
      rfl
    have x3 : oIx (.lst (sgD cs)) (.int ((sx W st 1 i : Nat) : Int)) = some (.str [cs.getD (sx W st 1 i) 0]) := ix_nat gx
    have n3 : oIsN (.int ((sx W st 1 i : Nat) : Int)) .non = some (.bl false) := rfl
    refine ⟨_, rfl, rfl, ?_⟩
    simp [-List.getD_eq_getElem?_getD, fIfE, fTest, fOp, fC, fVar, wipeD, x3, n3]
  have fin : ((nL ((List.range (W * H)).map fun i => sx W st 1 i)).map fun d => match d with | .int x => .str [cs.getD x.toNat 0] | d => d) = sgD (rk W H st 1 cs) := by
    unfold nL rk sgD
    rw [List.map_map, List.map_map, List.map_map]
    rfl
  rw [fin] at lc
  unfold F_things_after U_things_after
  simp [wipeD] at lc
  simp [fDef, env0, fRet, fOfL, fLc, fItems, lstOf, fCall, fCons, fNil, fVar, noOw, wipeD, e, cn, lc, Tm.chk]
theorem new_eq : F_new_signs Z row [REC st] = .ret (.lst [.str [46]]) := by
  have x0 : oIx (DEED st) (.int 0) = some RAKE := rfl
  have q1 : oEq RAKE (.str [100, 114, 111, 112]) = some (.bl false) := rfl
  have e : F_new_sign Z row [DEED st] = .ret (.str [46]) := by
    unfold F_new_sign U_new_sign
    simp [fDef, env0, fRet, fIfE, fTest, fOp, fC, fVar, x0, q1]
  unfold F_new_signs U_new_signs
  simp [fDef, env0, fRet, fOfL, fLc, fItems, tupOf, fCall, fCons, fNil, fVar, noOw, wipeD, hName, fYes, lcL, e, ck, Tm.chk]
theorem things_eq (o : Bk W H cs st) : F_things_done Z row [.int W, .int H, .lst (sgD cs), REC st, .lst [.str [46]]] = .ret (.tup [.lst (sgD (rk W H st 1 cs)), .lst []]) := by
  have e := after_eq (Z := Z) (row := row) o (nw := .str [46])
  have z : zipD [REC st, .lst [.str [46]]] = some [.tup [DEED st, .str [46]]] := rfl
  have x0 : oIx (DEED st) (.int 0) = some RAKE := rfl
  have q1 : oEq RAKE (.str [112, 97, 112, 101, 114]) = some (.bl false) := rfl
  have c2 : ck [D.lst (sgD (rk W H st 1 cs)), .lst []] = true := rfl
  have c0 : ck ([] : List D) = true := rfl
  unfold F_things_done U_things_done
  simp [fDef, env0, fSeq, fSetL, fLstL, fFor, fSrc, forL, hTup, hCons, hName, hNil, fIf, fTest, fSet, fRet, fFrz, frzD, frz, fTup, fNext, fOp, fCall, fCons, fNil, fC, fVar, z, x0, q1, e, c2, c0, Tm.chk]
theorem is_deed_eq (o : Bk W H cs st) : F_is_deed Z row [.int W, .int H, DEED st] = .ret (.bl true) := by
  obtain ⟨w0, w5, h0, h5, ln, wh⟩ := o.nums
  have e := are_strides_eq (Z := Z) (row := row) o.sd (by omega)
  have i1 : oIsi [DEED st, .ty .tuple] = some (.bl true) := rfl
  have l1 : oLen [DEED st] = some (.int 2) := rfl
  have q3 : oEq (.int 2) (.int 3) = some (.bl false) := rfl
  have q2 : oNe (.int 2) (.int 2) = some (.bl false) := rfl
  have q1 : oEq RAKE RAKE = some (.bl true) := rfl
  unfold F_is_deed U_is_deed
  simp [fDef, env0, fSeq, fIf, fNot, fAnd, fTest, fRet, fNext, fAsg, hTup, hCons, hName, hNil, fOp, fCB, fCall, fCons, fNil, fC, fVar, i1, l1, q3, q2, q1, e, Tm.chk]
theorem check_recipe_eq (o : Bk W H cs st) : F_check_recipe Z row [.int W, .int H, REC st] = .ret .non := by
  have e := is_deed_eq (Z := Z) (row := row) o
  have z : enumD [REC st] = some [.tup [.int 0, DEED st]] := rfl
  have q : oGe (.int 0) (.int 12) = some (.bl false) := rfl
  unfold F_check_recipe U_check_recipe
  simp [fDef, env0, fFor, fSrc, forL, hTup, hCons, hName, hNil, fIf, fOr, fNot, fTest, fNext, fOp, fCall, fCons, fNil, fC, fVar, z, q, e, Tm.chk]
theorem rk_gb (o : Bk W H cs st) (t : Nat) : Gb W H (rk W H st t cs) := by
  obtain ⟨w0, w5, h0, h5, ln, wh⟩ := o.nums
  have g := o.gb
  refine ⟨g.w1, g.w5, g.h1, g.h5, g.wh, ?_, List.all_eq_true.mpr fun c hc => ?_⟩
  · unfold rk
    rw [List.length_map, List.length_range, ← ln]
    exact g.len
  · obtain ⟨i, hi, rfl⟩ := List.mem_map.mp hc
    have lt := sx_lt (t := t) (st := st) w0 (List.mem_range.mp hi)
    rw [List.getD_eq_getElem?_getD, List.getElem?_eq_getElem (by omega)]
    exact List.all_eq_true.mp g.sg _ (List.getElem_mem _)
theorem rk_bk (o : Bk W H cs st) (t : Nat) : Bk W H (rk W H st t cs) st := ⟨rk_gb o t, o.sd⟩
theorem rk_get {t i : Nat} (hi : i < W * H) : (rk W H st t cs).getD i 0 = cs.getD (sx W st t i) 0 := by
  unfold rk
  rw [List.getD_eq_getElem?_getD, List.getElem?_map, List.getElem?_range hi]
  rfl
theorem rk_step (o : Bk W H cs st) {t : Nat} : rk W H st 1 (rk W H st t cs) = rk W H st (t + 1) cs := by
  obtain ⟨w0, w5, h0, h5, ln, wh⟩ := o.nums
  show (List.range (W * H)).map _ = (List.range (W * H)).map _
  refine List.map_congr_left fun i inRange => ?_
  rw [rk_get (sx_lt w0 (List.mem_range.mp inRange)), sx_step w0]
theorem rk_zero (o : Bk W H cs st) : rk W H st 0 cs = cs := by
  obtain ⟨w0, w5, h0, h5, ln, wh⟩ := o.nums
  refine List.ext_getElem? fun i => ?_
  unfold rk
  rw [List.getElem?_map]
  by_cases hi : i < W * H
  · rw [List.getElem?_range hi]
    show some (cs.getD (sx W st 0 i) 0) = _
    rw [sx_zero w0, List.getD_eq_getElem?_getD, List.getElem?_eq_getElem (by omega)]
    rfl
  · rw [List.getElem?_eq_none (by rw [List.length_range]; omega), List.getElem?_eq_none (by omega)]
    rfl
theorem rk_per (o : Bk W H cs st) {t : Nat} : rk W H st (t + W) cs = rk W H st t cs := by
  obtain ⟨w0, w5, h0, h5, ln, wh⟩ := o.nums
  show (List.range (W * H)).map _ = (List.range (W * H)).map _
  refine List.map_congr_left fun i inRange => ?_
  rw [sx_per w0]
theorem done_eq (o : Bk W H cs st) : F_done Z row [bd Z W H cs, REC st] = .ret (.tup [bd Z W H (rk W H st 1 cs), .lst []]) := by
  obtain ⟨w0, w5, h0, h5, ln, wh⟩ := o.nums
  have e1 := check_recipe_eq (Z := Z) (row := row) o
  have e2 := new_eq (Z := Z) (row := row) (st := st)
  have e3 := things_eq (Z := Z) (row := row) o
  have g := rk_gb o 1
  have gl := g.size.2
  have ls : oListS [.str cs] = some (.lst (sgD cs)) := gd_t (decide_eq_true (by omega))
  have ej := join_chars (cs := rk W H st 1 cs) (by omega)
  have ei := init_good (Z := Z) (row := row) g.w1 g.w5 g.h1 g.h5 g.wh g.len g.sg g.ok
  have c2 : ck [D.ins Z.Bath (bathF (.int W) (.int H) (.str (rk W H st 1 cs))), .lst []] = true := rfl
  have c0 : ck ([] : List D) = true := rfl
  unfold F_done U_done
  unfold bd
  simp [fDef, env0, fSeq, fDrop, fAsg, hTup, hCons, hName, hNil, fRet, fTup, fJoin, fOfL, fLc, fItems, lstOf, lcL, noOw, fCall, fCB, fCons, fNil, fC, fFld, oFld, fVar, lkc, lkr, lks, Tm.chk, e1, e2, e3, ls, ej, ei, c2, c0]
end
end K53
end

section
set_option Elab.async false
set_option linter.all false
set_option maxRecDepth 100000
set_option maxHeartbeats 5000000
namespace K53
open PySem L2 DL PyProof.Rows NT
section
variable {Z : Zs} {row : Addr} {W H : Nat} {cs : List Nat} {st : List Int}
theorem bd_inj {w h w' h' : Int} {a b : List Nat} (e : bd Z w h a = bd Z w' h' b) : w = w' ∧ h = h' ∧ a = b := by
  unfold bd bathF at e
  injection e with _ e
  injection e with e1 e
  injection e with e2 e
  injection e with e3 e
  injection e1 with _ e1
  injection e2 with _ e2
  injection e3 with _ e3
  injection e1 with e1
  injection e2 with e2
  injection e3 with e3
  exact ⟨e1, e2, e3⟩
theorem orb_some (o : Bk W H cs st) : ∃ n b, Orb Z row W H (REC st) (fun i => rk W H st i cs) n b := by
  obtain ⟨w0, w5, h0, h5, ln, wh⟩ := o.nums
  have back : rk W H st W cs = rk W H st 0 cs := by
    have := rk_per o (t := 0)
    rwa [Nat.zero_add] at this
  obtain ⟨n, b, h1, h2, h3, h4⟩ := first_rep (fun i => rk W H st i cs) w0 back
  refine ⟨n, b, fun i hi => ?_, fun i hi => ⟨.lst [], ?_⟩, h4, h3, h1, by omega⟩
  · have g := rk_gb o i
    exact init_good (Z := Z) (row := row) g.w1 g.w5 g.h1 g.h5 g.wh g.len g.sg g.ok
  · have e := done_eq (Z := Z) (row := row) (rk_bk o i)
    rw [rk_step o] at e
    exact e
theorem orb_is (o : Bk W H cs st) {f : Nat → List Nat} {n b : Nat} (O : Orb Z row W H (REC st) f n b) (h : f 0 = cs) : ∀ i, i ≤ n → f i = rk W H st i cs
  | 0, _ => by rw [h, rk_zero o]
  | i + 1, hi => by
    have ih := orb_is o O h i (by omega)
    obtain ⟨ps, e⟩ := O.dn i (by omega)
    rw [ih, done_eq (Z := Z) (row := row) (rk_bk o i), rk_step o] at e
    injection e with e
    injection e with e
    injection e with e _
    exact (bd_inj e).2.2.symm
/-- far ahead it comes round -/
theorem rk_round (o : Bk W H cs st) {n b : Nat} (bn : b < n) (back : rk W H st n cs = rk W H st b cs) : ∀ m, rk W H st (b + m) cs = rk W H st (b + m % (n - b)) cs := by
  have one : ∀ j, rk W H st (b + j + (n - b)) cs = rk W H st (b + j) cs := by
    intro j
    induction j with
    | zero => rw [Nat.add_zero, show b + (n - b) = n by omega]; exact back
    | succ j ih =>
      have a := rk_step o (t := b + j + (n - b))
      rw [ih, rk_step o] at a
      rw [show b + (j + 1) + (n - b) = b + j + (n - b) + 1 by omega, show b + (j + 1) = b + j + 1 by omega]
      exact a.symm
  have many : ∀ q j, rk W H st (b + j + q * (n - b)) cs = rk W H st (b + j) cs := by
    intro q
    induction q with
    | zero => intro j; rw [Nat.zero_mul, Nat.add_zero]
    | succ q ih =>
      intro j
      rw [Nat.succ_mul, show b + j + (q * (n - b) + (n - b)) = b + (j + q * (n - b)) + (n - b) by omega, one, show b + (j + q * (n - b)) = b + j + q * (n - b) by omega]
      exact ih j
  intro m
  have e : m % (n - b) + m / (n - b) * (n - b) = m := by rw [Nat.mul_comm, Nat.add_comm]; exact Nat.div_add_mod m (n - b)
  have := many (m / (n - b)) (m % (n - b))
  rw [show b + m % (n - b) + m / (n - b) * (n - b) = b + m by omega] at this
  exact this
theorem after_all (o : Bk W H cs st) {n : Nat} (hn : (n : Int) ≤ 1000000000000000000) {Q : D → Prop} {X : XP} (q : Q (bd Z W H (rk W H st n cs))) : (F_after_times Z row [bd Z W H cs, REC st, .int n]).all Q X := by
  obtain ⟨w0, w5, h0, h5, ln, wh⟩ := o.nums
  obtain ⟨n0, b0, O0⟩ := orb_some (Z := Z) (row := row) o
  have pre : (S_texts_and_begin Z).pre row [bd Z W H cs, REC st] := ⟨W, H, REC st, _, n0, b0, by rw [rk_zero o], O0⟩
  have et := texts_eq pre
  have e1 := check_recipe_eq (Z := Z) (row := row) o
  have e2 := check_number_eq (Z := Z) (row := row) (n := (n : Int)) (m := 1000000000000000000) (by omega) hn
  unfold F_after_times U_after_times
  refine def_all ?_
  have v0 : env0 5 [bd Z W H cs, REC st, .int (n : Int)] = [some (.sh (bd Z W H cs)), some (.sh (REC st)), some (.sh (.int n)), none, none] := rfl
  rw [v0]
  refine seq_to (ρ1 := [some (.sh (bd Z W H cs)), some (.sh (REC st)), some (.sh (.int n)), none, none]) ?_ ?_
  · simp [fDrop, fCall, fCons, fNil, fFld, oFld, fVar, bd, lkc, lkr, e1, Tm.chk]
  refine seq_to (ρ1 := [some (.sh (bd Z W H cs)), some (.sh (REC st)), some (.sh (.int n)), none, none]) ?_ ?_
  · simp [fDrop, fCall, fCons, fNil, fC, fVar, e2, Tm.chk]
  refine seq_any (P := fun ρ => ∃ (f : Nat → List Nat) (m b : Nat), Orb Z row W H (REC st) f m b ∧ f 0 = cs ∧ ρ = [some (.sh (bd Z W H cs)), some (.sh (REC st)), some (.sh (.int n)), some (.sh (.lst ((List.range m).map fun i => .str (f i)))), some (.sh (.int b))]) ?_ ?_
  · simp only [fAsg, fCall, fCons, fNil, fVar, et, List.getElem?_cons_zero, List.getElem?_cons_succ, List.length_cons, List.length_nil, Tm.bind_ret, Tm.all_bind, Tm.chk]
    rintro d ⟨w, h, rec, f, m, b, eq, O, rfl⟩
    injection eq with q1 q2
    injection q2 with q2 _
    obtain ⟨rfl, rfl, rfl⟩ := bd_inj q1
    subst q2
    exact ⟨_, rfl, f, m, b, O, rfl, rfl⟩
  rintro _ ⟨f, m, b, O, f0, rfl⟩
  have is := orb_is o O f0
  have bn := O.bn
  have big := O.big
  have back : rk W H st m cs = rk W H st b cs := by rw [← is m (Nat.le_refl _), ← is b (by omega)]; exact O.back
  have ll : oLen [.lst ((List.range m).map fun i => D.str (f i))] = some (.int (m : Int)) := by
    show some (D.int (((List.range m).map fun i => D.str (f i)).length : Int)) = _
    rw [show ((List.range m).map fun i => D.str (f i)).length = m from (List.length_map ..).trans List.length_range]
  have gg : oGe (.int (n : Int)) (.int (m : Int)) = some (.bl (decide (m ≤ n))) := by
    show some (D.bl (decide ((m : Int) ≤ (n : Int)))) = _
    congr 2
    exact decide_eq_decide.mpr Int.ofNat_le
  have last : ∀ x : Nat, x < m → rk W H st x cs = rk W H st n cs → ((fRet (fCall (F_Bath___init__ Z row) 3 (fCons (fFld Z.Bath (Str.ofString "column_count") (fVar 0)) (fCons (fFld Z.Bath (Str.ofString "row_count") (fVar 0)) (fCons (fOp oIx (fVar 3) (fVar 2)) fNil))))) [some (.sh (bd Z W H cs)), some (.sh (REC st)), some (.sh (.int x)), some (.sh (.lst ((List.range m).map fun i => .str (f i)))), some (.sh (.int b))]).all (fun o => match o with | .nx _ => Q .non | .rt d => Q d | _ => False) X := fun x hx ex => by
    have g := rk_gb o n
    have ei := init_good (Z := Z) (row := row) g.w1 g.w5 g.h1 g.h5 g.wh g.len g.sg g.ok
    have xx : oIx (.lst ((List.range m).map fun i => D.str (f i))) (.int (x : Int)) = some (.str (rk W H st n cs)) := by
      refine ix_nat ?_
      rw [List.getElem?_map, List.getElem?_range hx]
      show some (D.str (f x)) = _
      rw [is x (by omega), ex]
    have : (fRet (fCall (F_Bath___init__ Z row) 3 (fCons (fFld Z.Bath (Str.ofString "column_count") (fVar 0)) (fCons (fFld Z.Bath (Str.ofString "row_count") (fVar 0)) (fCons (fOp oIx (fVar 3) (fVar 2)) fNil))))) [some (.sh (bd Z W H cs)), some (.sh (REC st)), some (.sh (.int x)), some (.sh (.lst ((List.range m).map fun i => .str (f i)))), some (.sh (.int b))] = .ret (.rt (bd Z W H (rk W H st n cs))) := by
      unfold bd
      simp [fRet, fCall, fCons, fNil, fFld, oFld, fVar, fOp, lkc, lkr, xx, ei, Tm.chk]
    rw [this]
    exact q
  by_cases c : m ≤ n
  · have s1 : oSub (.int (n : Int)) (.int (b : Int)) = some (.int ((n - b : Nat) : Int)) := by
      show some (D.int ((n : Int) - (b : Int))) = _
      congr 2
      omega
    have s2 : oSub (.int (m : Int)) (.int (b : Int)) = some (.int ((m - b : Nat) : Int)) := by
      show some (D.int ((m : Int) - (b : Int))) = _
      congr 2
      omega
    have md : oMod (.int ((n - b : Nat) : Int)) (.int ((m - b : Nat) : Int)) = some (.int (((n - b) % (m - b) : Nat) : Int)) := by
      rw [Int.natCast_emod]
      exact gd_t (decide_eq_true (show (0 : Int) < ((m - b : Nat) : Int) by omega))
    have ad : oAdd (.int (b : Int)) (.int (((n - b) % (m - b) : Nat) : Int)) = some (.int ((b + (n - b) % (m - b) : Nat) : Int)) := rfl
    have lt := Nat.mod_lt (n - b) (show 0 < m - b by omega)
    have rd := rk_round o bn back (n - b)
    rw [show b + (n - b) = n by omega] at rd
    refine seq_to (ρ1 := [some (.sh (bd Z W H cs)), some (.sh (REC st)), some (.sh (.int ((b + (n - b) % (m - b) : Nat) : Int))), some (.sh (.lst ((List.range m).map fun i => .str (f i)))), some (.sh (.int b))]) ?_ (last _ (by omega) rd.symm)
    rw [decide_eq_true c] at gg
    refine (if_to (k := true) (test_to (op_to (x := .int n) (y := .int m) rfl ?_ gg))).trans ?_
    · simp only [fCB, fCons, fNil, fVar, List.getElem?_cons_zero, List.getElem?_cons_succ, Tm.bind_ret, ll]
      rfl
    · rw [if_pos rfl]
      refine set_to (op_to (x := .int b) rfl (op_to (op_to (x := .int n) (y := .int b) rfl rfl s1) (op_to (x := .int m) (y := .int b) ?_ rfl s2) md) ad)
      simp only [fCB, fCons, fNil, fVar, List.getElem?_cons_zero, List.getElem?_cons_succ, Tm.bind_ret, ll]
      rfl
  · refine seq_to (ρ1 := [some (.sh (bd Z W H cs)), some (.sh (REC st)), some (.sh (.int n)), some (.sh (.lst ((List.range m).map fun i => .str (f i)))), some (.sh (.int b))]) ?_ (last _ (by omega) rfl)
    rw [decide_eq_false c] at gg
    refine (if_to (k := false) (test_to (op_to (x := .int n) (y := .int m) rfl ?_ gg))).trans rfl
    simp only [fCB, fCons, fNil, fVar, List.getElem?_cons_zero, List.getElem?_cons_succ, Tm.bind_ret, ll]
    rfl
end
end K53
end

section
set_option Elab.async false
set_option linter.all false
set_option maxRecDepth 100000
set_option maxHeartbeats 5000000
namespace K53
open PySem L2 DL PyProof.Rows NT
/-- the law's slots -/
def lv (row : Addr) (a b c d e f g h i j k l m n : Option DV) : En := [none, some (.sh (.ref row)), a, b, c, d, e, f, g, h, i, j, k, l, m, n]
theorem sx_comp {W t u i : Nat} {st : List Int} (hW : 0 < W) : sx W st t (sx W st u i) = sx W st (t + u) i := by
  rw [sx_eq, sx_div hW, sx_mod hW, sx_eq]
  congr 1
  refine rem_congr ?_
  rw [sub_rem hW]
  congr 1
  rw [show ((t + u : Nat) : Int) = (t : Int) + u from rfl, Int.add_mul]
  omega
section
variable {Z : Zs} {row : Addr} {W H c s : Nat} {cs : List Nat} {st : List Int}
theorem Ok.bk (o : Ok W H cs st c s) : Bk W H cs st := ⟨o.gb, o.sd⟩
theorem Ok.later (o : Ok W H cs st c s) (n : Nat) : Ok W H (rk W H st n cs) st c s := ⟨rk_gb o.bk n, o.sd, o.c, o.s⟩
theorem hit_later (o : Ok W H cs st c s) (n t : Nat) : hitD (rk W H st n cs) W st c s t = hitD cs W st c s (n + t) := by
  obtain ⟨w0, w5, h0, h5, ln, wh⟩ := o.nums
  unfold hitD
  rw [rk_get (sx_lt w0 o.c), sx_comp w0]
theorem rk_at (o : Ok W H cs st c s) (n : Nat) : oIx (.str (rk W H st n cs)) (.int (c : Int)) = some (.str [cs.getD (sx W st n c) 0]) := by
  have g := rk_gb o.bk n
  have hc := o.c
  have e : (rk W H st n cs)[c]? = some (cs.getD (sx W st n c) 0) := by
    unfold rk
    rw [List.getElem?_map, List.getElem?_range hc]
    rfl
  show (if decide ((rk W H st n cs).length ≤ 100000) = true then (atI (rk W H st n cs) (c : Int)).map fun c => D.str [c] else none) = _
  rw [if_pos (decide_eq_true (by have := g.size.2; omega)), DL.atI_nat e]
  rfl
theorem sg_one (o : Ok W H cs st c s) (t : Nat) : okC [cs.getD (sx W st t c) 0] = true := by
  obtain ⟨w0, w5, h0, h5, ln, wh⟩ := o.nums
  have lt := sx_lt (t := t) (st := st) w0 o.c
  have : cs[sx W st t c]? = some (cs.getD (sx W st t c) 0) := by
    rw [List.getD_eq_getElem?_getD, List.getElem?_eq_getElem (by omega)]
    rfl
  have := List.all_eq_true.mp o.gb.ok _ (List.mem_of_getElem? this)
  simp [okC]
  simpa using this
theorem sg_eq (o : Ok W H cs st c s) (t : Nat) : oEq (.str [cs.getD (sx W st t c) 0]) (.str [s]) = some (.bl (hitD cs W st c s t)) := by
  have o1 := sg_one o t
  have o2 : okC [s] = true := sg_okC (by simp [o.s])
  show gd (okC [cs.getD (sx W st t c) 0] && okC [s]) (.bl ([cs.getD (sx W st t c) 0] == [s])) = _
  rw [o1, o2]
  show some (D.bl ([cs.getD (sx W st t c) 0] == [s])) = some (D.bl (cs.getD (sx W st t c) 0 == s))
  congr 2
  simp
theorem sg_ne (o : Ok W H cs st c s) {t : Nat} (h : hitD cs W st c s t = true) : oNe (.str [cs.getD (sx W st t c) 0]) (.str [s]) = some (.bl false) := by
  have e : cs.getD (sx W st t c) 0 = s := by simpa [hitD] using h
  have o2 : okC [s] = true := sg_okC (by simp [o.s])
  rw [e]
  show gd (okC [s] && okC [s]) (.bl (![s] == [s])) = _
  rw [o2]
  simp [gd]
theorem ne_int {a : Int} : oNe (.int a) (.int a) = some (.bl false) := by
  show some (D.bl (!(a == a))) = _
  rw [beq_self_eq_true]
  rfl
/-- the time with a number, where there is one -/
theorem when_some (o : Ok W H cs st c s) {x : Nat} (hx : x < 1000000000000000) (ne : hits (hitD cs W st c s) W ≠ []) :
    ∃ y : Nat, F_nth_seen Z row [bd Z W H cs, .tup (inL st), .int c, .str [s], .int x] = .ret (.int (y : Int)) ∧ (hits (hitD cs W st c s) y).length = x ∧ hitD cs W st c s y = true ∧ y < (x + 1) * W := by
  obtain ⟨w0, w5, h0, h5, ln, wh⟩ := o.nums
  have m0 : 0 < (hits (hitD cs W st c s) W).length := List.length_pos_iff.mpr ne
  obtain ⟨x', e1, e2⟩ := hits_nth0 (hit := hitD cs W st c s) (hit_per w0) (x + 1) x (Nat.lt_of_lt_of_le (Nat.lt_succ_self x) (Nat.le_mul_of_pos_right _ m0))
  have en := nth_eq (Z := Z) (row := row) o (n := x) (by omega) e1
  obtain ⟨a1, a2, a3⟩ := hits_at e2
  exact ⟨_, en, a1, a2, a3⟩
theorem far_zero (o : Ok W H cs st c s) {n : Nat} (hn : 5 ≤ n) : (hits (hitD cs W st c s) n).length = 0 ↔ hits (hitD cs W st c s) W = [] := by
  obtain ⟨w0, w5, h0, h5, ln, wh⟩ := o.nums
  have cnt := hits_count (hit := hitD cs W st c s) (hit_per w0) w0 n
  constructor
  · intro z
    have : (hits (hitD cs W st c s) W).length ≤ (hits (hitD cs W st c s) n).length := NT.hits_mono (hit := hitD cs W st c s) (show W ≤ n by omega)
    exact List.eq_nil_of_length_eq_zero (by omega)
  · intro z
    rw [cnt, z]
    simp
/-- what is said of one sign -/
noncomputable def SB (Z : Zs) (row : Addr) : FS := (fSeq (fSet 12 (fCall (F_seen_times Z row) 5 (fCons (fVar 3) (fCons (fVar 4) (fCons (fVar 5) (fCons (fVar 11) (fCons (fVar 6) fNil))))))) (fSeq (fSet 10 (fOp oAdd (fVar 10) (fVar 12))) (fSeq (fSet 13 (fCall (F_seen_times Z row) 5 (fCons (fVar 3) (fCons (fVar 4) (fCons (fVar 5) (fCons (fVar 11) (fCons (fOp oAdd (fVar 6) (fVar 8)) fNil))))))) (fSeq (fIf (fTest (fOp oNe (fOp oSub (fVar 13) (fVar 12)) (fCall (F_seen_times Z row) 5 (fCons (fVar 9) (fCons (fVar 4) (fCons (fVar 5) (fCons (fVar 11) (fCons (fVar 8) fNil)))))))) (fRet (fC (.bl false))) fNext) (fSeq (fIf (fTest (fOp oNe (fOp oSub (fCall (F_seen_times Z row) 5 (fCons (fVar 3) (fCons (fVar 4) (fCons (fVar 5) (fCons (fVar 11) (fCons (fOp oAdd (fVar 6) (fC (.int 1))) fNil)))))) (fVar 12)) (fCB oIntB (fCons (fOp oEq (fOp oIx (fFld Z.Bath (Str.ofString "signs") (fVar 9)) (fVar 5)) (fVar 11)) fNil)))) (fRet (fC (.bl false))) fNext) (fSeq (fSet 14 (fCall (F__law_taken Z row) 2 (fCons (fVar 1) (fCons (fOp oPow (fC (.int 10)) (fC (.int 12))) fNil)))) (fSeq (fSet 15 (fCall (F_nth_seen Z row) 5 (fCons (fVar 3) (fCons (fVar 4) (fCons (fVar 5) (fCons (fVar 11) (fCons (fVar 14) fNil))))))) (fSeq (fIf (fTest (fOp oNe (fOp oIsN (fVar 15) (fC .non)) (fOp oEq (fVar 12) (fC (.int 0))))) (fRet (fC (.bl false))) fNext) (fIf (fTest (fOp oNotN (fVar 15) (fC .non))) (fSeq (fIf (fTest (fOp oNe (fCall (F_seen_times Z row) 5 (fCons (fVar 3) (fCons (fVar 4) (fCons (fVar 5) (fCons (fVar 11) (fCons (fVar 15) fNil)))))) (fVar 14))) (fRet (fC (.bl false))) fNext) (fSeq (fIf (fTest (fOp oNe (fCall (F_seen_times Z row) 5 (fCons (fVar 3) (fCons (fVar 4) (fCons (fVar 5) (fCons (fVar 11) (fCons (fOp oAdd (fVar 15) (fC (.int 1))) fNil)))))) (fOp oAdd (fVar 14) (fC (.int 1))))) (fRet (fC (.bl false))) fNext) (fSeq (fIf (fTest (fOp oNe (fOp oIx (fFld Z.Bath (Str.ofString "signs") (fCall (F_after_times Z row) 3 (fCons (fVar 3) (fCons (fVar 7) (fCons (fVar 15) fNil))))) (fVar 5)) (fVar 11))) (fRet (fC (.bl false))) fNext) (fIf (fNot (fTest (fChain oLt oLe (fVar 15) (fCall (F_nth_seen Z row) 5 (fCons (fVar 3) (fCons (fVar 4) (fCons (fVar 5) (fCons (fVar 11) (fCons (fOp oAdd (fVar 14) (fC (.int 1))) fNil)))))) (fOp oAdd (fVar 15) (fFld Z.Bath (Str.ofString "column_count") (fVar 3)))))) (fRet (fC (.bl false))) fNext)))) fNext)))))))))
theorem sign_ok (o : Ok W H cs st c s) {t : D} {far more : Nat} (f0 : 100000000000000000 ≤ far) (f1 : far < 100000000000001000) (m1 : more < 50) {tot : Int} {k l m n : Option DV} :
    (SB Z row (lv row (some (.sh t)) (some (.sh (bd Z W H cs))) (some (.sh (.tup (inL st)))) (some (.sh (.int c))) (some (.sh (.int far))) (some (.sh (REC st))) (some (.sh (.int more))) (some (.sh (bd Z W H (rk W H st far cs)))) (some (.sh (.int tot))) (some (.sh (.str [s]))) k l m n)).all
      (fun u => ∃ ρ2, u = .nx ρ2 ∧ ∃ k l m n, ρ2 = lv row (some (.sh t)) (some (.sh (bd Z W H cs))) (some (.sh (.tup (inL st)))) (some (.sh (.int c))) (some (.sh (.int far))) (some (.sh (REC st))) (some (.sh (.int more))) (some (.sh (bd Z W H (rk W H st far cs)))) (some (.sh (.int (tot + ((hits (hitD cs W st c s) far).length : Nat))))) (some (.sh (.str [s]))) k l m n) XF := by
  obtain ⟨w0, w5, h0, h5, ln, wh⟩ := o.nums
  have e1 := seen_eq (Z := Z) (row := row) o (n := far) (by omega)
  have e2 := seen_eq (Z := Z) (row := row) o (n := far + more) (by omega)
  have e3 := seen_eq (Z := Z) (row := row) (o.later far) (n := more) (by omega)
  have e4 := seen_eq (Z := Z) (row := row) o (n := far + 1) (by omega)
  have hl : hitD (rk W H st far cs) W st c s = fun t => hitD cs W st c s (far + t) := funext fun t => hit_later o far t
  have split : (hits (hitD cs W st c s) (far + more)).length = (hits (hitD cs W st c s) far).length + (hits (hitD (rk W H st far cs) W st c s) more).length := by
    rw [hl, hits_add, List.length_append, List.length_map]
  have sc := hits_len_succ (hit := hitD cs W st c s) far
  unfold SB
  refine seq_to (ρ1 := lv row (some (.sh t)) (some (.sh (bd Z W H cs))) (some (.sh (.tup (inL st)))) (some (.sh (.int c))) (some (.sh (.int far))) (some (.sh (REC st))) (some (.sh (.int more))) (some (.sh (bd Z W H (rk W H st far cs)))) (some (.sh (.int tot))) (some (.sh (.str [s]))) (some (.sh (.int ((hits (hitD cs W st c s) far).length : Nat)))) l m n) ?_ ?_
  · simp [lv, fSet, fCall, fCons, fNil, fVar, Tm.chk, e1]
  generalize hc : (hits (hitD cs W st c s) far).length = cnt at e1 split sc
  refine seq_to (ρ1 := lv row (some (.sh t)) (some (.sh (bd Z W H cs))) (some (.sh (.tup (inL st)))) (some (.sh (.int c))) (some (.sh (.int far))) (some (.sh (REC st))) (some (.sh (.int more))) (some (.sh (bd Z W H (rk W H st far cs)))) (some (.sh (.int (tot + (cnt : Nat))))) (some (.sh (.str [s]))) (some (.sh (.int (cnt : Nat)))) l m n) ?_ ?_
  · have ea : oAdd (.int tot) (.int (cnt : Int)) = some (.int (tot + (cnt : Nat))) := rfl
    simp [lv, fSet, fOp, fVar, ea]
  refine seq_to (ρ1 := lv row (some (.sh t)) (some (.sh (bd Z W H cs))) (some (.sh (.tup (inL st)))) (some (.sh (.int c))) (some (.sh (.int far))) (some (.sh (REC st))) (some (.sh (.int more))) (some (.sh (bd Z W H (rk W H st far cs)))) (some (.sh (.int (tot + (cnt : Nat))))) (some (.sh (.str [s]))) (some (.sh (.int (cnt : Nat)))) (some (.sh (.int (((hits (hitD cs W st c s) (far + more)).length : Nat) : Int)))) m n) ?_ ?_
  · have ea : oAdd (.int (far : Int)) (.int (more : Int)) = some (.int ((far + more : Nat) : Int)) := rfl
    simp [-Int.natCast_add, lv, fSet, fOp, fCall, fCons, fNil, fVar, Tm.chk, ea, e2]
  refine seq_to (ρ1 := lv row (some (.sh t)) (some (.sh (bd Z W H cs))) (some (.sh (.tup (inL st)))) (some (.sh (.int c))) (some (.sh (.int far))) (some (.sh (REC st))) (some (.sh (.int more))) (some (.sh (bd Z W H (rk W H st far cs)))) (some (.sh (.int (tot + (cnt : Nat))))) (some (.sh (.str [s]))) (some (.sh (.int (cnt : Nat)))) (some (.sh (.int (((hits (hitD cs W st c s) (far + more)).length : Nat) : Int)))) m n) ?_ ?_
  · have es : oSub (.int (((hits (hitD cs W st c s) (far + more)).length : Nat) : Int)) (.int (cnt : Int)) = some (.int (((hits (hitD (rk W H st far cs) W st c s) more).length : Nat) : Int)) := by
      show some (D.int ((((hits (hitD cs W st c s) (far + more)).length : Nat) : Int) - (cnt : Int))) = _
      congr 2
      omega
    have en := ne_int (a := (((hits (hitD (rk W H st far cs) W st c s) more).length : Nat) : Int))
    simp [lv, fIf, fTest, fOp, fCall, fCons, fNil, fVar, fNext, Tm.chk, es, e3, en]
  refine seq_to (ρ1 := lv row (some (.sh t)) (some (.sh (bd Z W H cs))) (some (.sh (.tup (inL st)))) (some (.sh (.int c))) (some (.sh (.int far))) (some (.sh (REC st))) (some (.sh (.int more))) (some (.sh (bd Z W H (rk W H st far cs)))) (some (.sh (.int (tot + (cnt : Nat))))) (some (.sh (.str [s]))) (some (.sh (.int (cnt : Nat)))) (some (.sh (.int (((hits (hitD cs W st c s) (far + more)).length : Nat) : Int)))) m n) ?_ ?_
  · have ea : oAdd (.int (far : Int)) (.int 1) = some (.int ((far + 1 : Nat) : Int)) := rfl
    have x1 := rk_at o far
    have q1 := sg_eq o far
    have es : oSub (.int (((hits (hitD cs W st c s) (far + 1)).length : Nat) : Int)) (.int (cnt : Int)) = some (.int (if hitD cs W st c s far = true then 1 else 0)) := by
      show some (D.int ((((hits (hitD cs W st c s) (far + 1)).length : Nat) : Int) - (cnt : Int))) = _
      congr 2
      rw [sc]
      cases hitD cs W st c s far <;> simp <;> omega
    have ib : oIntB [.bl (hitD cs W st c s far)] = some (.int (if hitD cs W st c s far = true then 1 else 0)) := rfl
    have en := ne_int (a := if hitD cs W st c s far = true then 1 else 0)
    unfold bd at e4 ⊢
    simp [-List.getD_eq_getElem?_getD, -Int.natCast_add, lv, fIf, fTest, fOp, fCB, fCall, fCons, fNil, fC, fFld, oFld, fVar, fNext, lks, Tm.chk, ea, e4, es, x1, q1, ib, en]
  clear e1 e2 e3 e4 split sc hl
  generalize (((hits (hitD cs W st c s) (far + more)).length : Nat) : Int) = bb
  refine seq_any (P := fun ρ => ∃ x : Nat, x < 1000000000000 ∧ ρ = lv row (some (.sh t)) (some (.sh (bd Z W H cs))) (some (.sh (.tup (inL st)))) (some (.sh (.int c))) (some (.sh (.int far))) (some (.sh (REC st))) (some (.sh (.int more))) (some (.sh (bd Z W H (rk W H st far cs)))) (some (.sh (.int (tot + (cnt : Nat))))) (some (.sh (.str [s]))) (some (.sh (.int (cnt : Nat)))) (some (.sh (.int bb))) (some (.sh (.int (x : Int)))) n) ?_ ?_
  · have t12 := taken_eq (Z := Z) (row := row) (m := 1000000000000) (by decide) (by decide)
    have ep : oPow (.int 10) (.int 12) = some (.int 1000000000000) := by kernel_rfl
    simp only [lv, fSet, fOp, fC, fCall, fCons, fNil, fVar, List.getElem?_cons_zero, List.getElem?_cons_succ, List.length_cons, List.length_nil, ep, t12, Tm.bind_ret, Tm.bind_assoc, Tm.all_bind, Tm.ofO_some, Tm.chk]
    rintro _ ⟨x, rfl, x0, x1⟩
    obtain ⟨x, rfl⟩ : ∃ y : Nat, x = y := ⟨x.toNat, by omega⟩
    exact ⟨_, rfl, x, by omega, rfl⟩
  rintro _ ⟨x, x1, rfl⟩
  have fz := far_zero o (n := far) (by omega)
  rw [hc] at fz
  have q0 : oEq (.int (cnt : Int)) (.int 0) = some (.bl (decide (cnt = 0))) := by
    show some (D.bl ((cnt : Int) == 0)) = _
    by_cases z : cnt = 0
    · subst z; rfl
    · rw [beq_eq_false_iff_ne.mpr (by omega), decide_eq_false z]
  by_cases ne : hits (hitD cs W st c s) W = []
  · have en := nth_none (Z := Z) (row := row) o (n := x) (by omega) ne
    rw [decide_eq_true (fz.mpr ne)] at q0
    refine seq_to (ρ1 := lv row (some (.sh t)) (some (.sh (bd Z W H cs))) (some (.sh (.tup (inL st)))) (some (.sh (.int c))) (some (.sh (.int far))) (some (.sh (REC st))) (some (.sh (.int more))) (some (.sh (bd Z W H (rk W H st far cs)))) (some (.sh (.int (tot + (cnt : Nat))))) (some (.sh (.str [s]))) (some (.sh (.int (cnt : Nat)))) (some (.sh (.int bb))) (some (.sh (.int (x : Int)))) (some (.sh .non))) ?_ ?_
    · simp [lv, fSet, fCall, fCons, fNil, fVar, Tm.chk, en]
    have n1 : oIsN .non .non = some (.bl true) := rfl
    have n2 : oNe (.bl true) (.bl true) = some (.bl false) := rfl
    have n3 : oNotN .non .non = some (.bl false) := rfl
    refine seq_to (ρ1 := lv row (some (.sh t)) (some (.sh (bd Z W H cs))) (some (.sh (.tup (inL st)))) (some (.sh (.int c))) (some (.sh (.int far))) (some (.sh (REC st))) (some (.sh (.int more))) (some (.sh (bd Z W H (rk W H st far cs)))) (some (.sh (.int (tot + (cnt : Nat))))) (some (.sh (.str [s]))) (some (.sh (.int (cnt : Nat)))) (some (.sh (.int bb))) (some (.sh (.int (x : Int)))) (some (.sh .non))) ?_ ?_
    · simp [lv, fIf, fTest, fOp, fC, fVar, fNext, q0, n1, n2]
    rw [if_to (k := false) (test_to (op_to (x := .non) (y := .non) rfl rfl n3)), if_neg Bool.false_ne_true]
    exact ⟨_, rfl, _, _, _, _, rfl⟩
  · obtain ⟨y, en, ly, hy, yl⟩ := when_some (Z := Z) (row := row) o (x := x) (by omega) ne
    obtain ⟨z, en2, lz, hz, _⟩ := when_some (Z := Z) (row := row) o (x := x + 1) (by omega) ne
    obtain ⟨nx1, nx2⟩ := hits_next (hit_per w0) w0 hy ly hz lz
    have ybig : y < 5000000000000 := by
      have : (x + 1) * W ≤ 1000000000000 * 5 := Nat.mul_le_mul (by omega) w5
      omega
    have c0 : ¬ cnt = 0 := fun q => ne (fz.mp q)
    rw [decide_eq_false c0] at q0
    refine seq_to (ρ1 := lv row (some (.sh t)) (some (.sh (bd Z W H cs))) (some (.sh (.tup (inL st)))) (some (.sh (.int c))) (some (.sh (.int far))) (some (.sh (REC st))) (some (.sh (.int more))) (some (.sh (bd Z W H (rk W H st far cs)))) (some (.sh (.int (tot + (cnt : Nat))))) (some (.sh (.str [s]))) (some (.sh (.int (cnt : Nat)))) (some (.sh (.int bb))) (some (.sh (.int (x : Int)))) (some (.sh (.int (y : Int))))) ?_ ?_
    · simp [lv, fSet, fCall, fCons, fNil, fVar, Tm.chk, en]
    have n1 : oIsN (.int (y : Int)) .non = some (.bl false) := rfl
    have n2 : oNe (.bl false) (.bl false) = some (.bl false) := rfl
    have n3 : oNotN (.int (y : Int)) .non = some (.bl true) := rfl
    refine seq_to (ρ1 := lv row (some (.sh t)) (some (.sh (bd Z W H cs))) (some (.sh (.tup (inL st)))) (some (.sh (.int c))) (some (.sh (.int far))) (some (.sh (REC st))) (some (.sh (.int more))) (some (.sh (bd Z W H (rk W H st far cs)))) (some (.sh (.int (tot + (cnt : Nat))))) (some (.sh (.str [s]))) (some (.sh (.int (cnt : Nat)))) (some (.sh (.int bb))) (some (.sh (.int (x : Int)))) (some (.sh (.int (y : Int))))) ?_ ?_
    · simp [lv, fIf, fTest, fOp, fC, fVar, fNext, q0, n1, n2]
    rw [if_to (k := true) (test_to (op_to (x := .int (y : Int)) (y := .non) rfl rfl n3)), if_pos rfl]
    have e1 := seen_eq (Z := Z) (row := row) o (n := y) (by omega)
    have e2 := seen_eq (Z := Z) (row := row) o (n := y + 1) (by omega)
    rw [ly] at e1
    rw [hits_len_succ, ly, hy, if_pos rfl] at e2
    refine seq_to (ρ1 := lv row (some (.sh t)) (some (.sh (bd Z W H cs))) (some (.sh (.tup (inL st)))) (some (.sh (.int c))) (some (.sh (.int far))) (some (.sh (REC st))) (some (.sh (.int more))) (some (.sh (bd Z W H (rk W H st far cs)))) (some (.sh (.int (tot + (cnt : Nat))))) (some (.sh (.str [s]))) (some (.sh (.int (cnt : Nat)))) (some (.sh (.int bb))) (some (.sh (.int (x : Int)))) (some (.sh (.int (y : Int))))) ?_ ?_
    · have nn := ne_int (a := (x : Int))
      simp [lv, fIf, fTest, fOp, fCall, fCons, fNil, fVar, fNext, Tm.chk, e1, nn]
    refine seq_to (ρ1 := lv row (some (.sh t)) (some (.sh (bd Z W H cs))) (some (.sh (.tup (inL st)))) (some (.sh (.int c))) (some (.sh (.int far))) (some (.sh (REC st))) (some (.sh (.int more))) (some (.sh (bd Z W H (rk W H st far cs)))) (some (.sh (.int (tot + (cnt : Nat))))) (some (.sh (.str [s]))) (some (.sh (.int (cnt : Nat)))) (some (.sh (.int bb))) (some (.sh (.int (x : Int)))) (some (.sh (.int (y : Int))))) ?_ ?_
    · have a1 : oAdd (.int (y : Int)) (.int 1) = some (.int ((y + 1 : Nat) : Int)) := rfl
      have a2 : oAdd (.int (x : Int)) (.int 1) = some (.int ((x + 1 : Nat) : Int)) := rfl
      have nn := ne_int (a := ((x + 1 : Nat) : Int))
      simp [-Int.natCast_add, lv, fIf, fTest, fOp, fCall, fCons, fNil, fC, fVar, fNext, Tm.chk, a1, a2, e2, nn]
    refine seq_any (P := fun ρ => ρ = lv row (some (.sh t)) (some (.sh (bd Z W H cs))) (some (.sh (.tup (inL st)))) (some (.sh (.int c))) (some (.sh (.int far))) (some (.sh (REC st))) (some (.sh (.int more))) (some (.sh (bd Z W H (rk W H st far cs)))) (some (.sh (.int (tot + (cnt : Nat))))) (some (.sh (.str [s]))) (some (.sh (.int (cnt : Nat)))) (some (.sh (.int bb))) (some (.sh (.int (x : Int)))) (some (.sh (.int (y : Int))))) ?_ ?_
    · have x2 := rk_at o y
      have nn := sg_ne o hy
      have ec : (fCall (F_after_times Z row) 3 (fCons (fVar 3) (fCons (fVar 7) (fCons (fVar 15) fNil)))) (lv row (some (.sh t)) (some (.sh (bd Z W H cs))) (some (.sh (.tup (inL st)))) (some (.sh (.int c))) (some (.sh (.int far))) (some (.sh (REC st))) (some (.sh (.int more))) (some (.sh (bd Z W H (rk W H st far cs)))) (some (.sh (.int (tot + (cnt : Nat))))) (some (.sh (.str [s]))) (some (.sh (.int (cnt : Nat)))) (some (.sh (.int bb))) (some (.sh (.int (x : Int)))) (some (.sh (.int (y : Int))))) = F_after_times Z row [bd Z W H cs, REC st, .int (y : Int)] := by
        simp [fCall, fCons, fNil, fVar, lv, Tm.chk]
      unfold fIf fTest
      simp only [fOp, fFld, ec, Tm.bind_assoc, Tm.all_bind]
      refine after_all o.bk (by omega) ?_
      have v5 : fVar 5 (lv row (some (.sh t)) (some (.sh (bd Z W H cs))) (some (.sh (.tup (inL st)))) (some (.sh (.int c))) (some (.sh (.int far))) (some (.sh (REC st))) (some (.sh (.int more))) (some (.sh (bd Z W H (rk W H st far cs)))) (some (.sh (.int (tot + (cnt : Nat))))) (some (.sh (.str [s]))) (some (.sh (.int (cnt : Nat)))) (some (.sh (.int bb))) (some (.sh (.int (x : Int)))) (some (.sh (.int (y : Int))))) = .ret (.int (c : Int)) := rfl
      have v11 : fVar 11 (lv row (some (.sh t)) (some (.sh (bd Z W H cs))) (some (.sh (.tup (inL st)))) (some (.sh (.int c))) (some (.sh (.int far))) (some (.sh (REC st))) (some (.sh (.int more))) (some (.sh (bd Z W H (rk W H st far cs)))) (some (.sh (.int (tot + (cnt : Nat))))) (some (.sh (.str [s]))) (some (.sh (.int (cnt : Nat)))) (some (.sh (.int bb))) (some (.sh (.int (x : Int)))) (some (.sh (.int (y : Int))))) = .ret (.str [s]) := rfl
      have fl : oFld Z.Bath (Str.ofString "signs") (bd Z W H (rk W H st y cs)) = some (.str (rk W H st y cs)) := by simp [oFld, bd, lks]
      simp only [fl, Tm.ofO_some, Tm.all_ret, v5, v11, x2, nn, Tm.bind_ret]
      exact ⟨_, rfl, rfl⟩
    rintro _ rfl
    have a1 : oAdd (.int (x : Int)) (.int 1) = some (.int ((x + 1 : Nat) : Int)) := rfl
    have a2 : oAdd (.int (y : Int)) (.int (W : Int)) = some (.int ((y + W : Nat) : Int)) := rfl
    have l1 : oLt (.int (y : Int)) (.int (z : Int)) = some (.bl true) := by
      show some (D.bl (decide ((y : Int) < (z : Int)))) = _
      rw [decide_eq_true (by omega)]
    have l2 : oLe (.int (z : Int)) (.int ((y + W : Nat) : Int)) = some (.bl true) := by
      show some (D.bl (decide ((z : Int) ≤ ((y + W : Nat) : Int)))) = _
      rw [decide_eq_true (by omega)]
    have : (fIf (fNot (fTest (fChain oLt oLe (fVar 15) (fCall (F_nth_seen Z row) 5 (fCons (fVar 3) (fCons (fVar 4) (fCons (fVar 5) (fCons (fVar 11) (fCons (fOp oAdd (fVar 14) (fC (.int 1))) fNil)))))) (fOp oAdd (fVar 15) (fFld Z.Bath (Str.ofString "column_count") (fVar 3)))))) (fRet (fC (.bl false))) fNext) (lv row (some (.sh t)) (some (.sh (bd Z W H cs))) (some (.sh (.tup (inL st)))) (some (.sh (.int c))) (some (.sh (.int far))) (some (.sh (REC st))) (some (.sh (.int more))) (some (.sh (bd Z W H (rk W H st far cs)))) (some (.sh (.int (tot + (cnt : Nat))))) (some (.sh (.str [s]))) (some (.sh (.int (cnt : Nat)))) (some (.sh (.int bb))) (some (.sh (.int (x : Int)))) (some (.sh (.int (y : Int))))) = .ret (.nx (lv row (some (.sh t)) (some (.sh (bd Z W H cs))) (some (.sh (.tup (inL st)))) (some (.sh (.int c))) (some (.sh (.int far))) (some (.sh (REC st))) (some (.sh (.int more))) (some (.sh (bd Z W H (rk W H st far cs)))) (some (.sh (.int (tot + (cnt : Nat))))) (some (.sh (.str [s]))) (some (.sh (.int (cnt : Nat)))) (some (.sh (.int bb))) (some (.sh (.int (x : Int)))) (some (.sh (.int (y : Int)))))) := by
      unfold bd at en2 ⊢
      simp [-Int.natCast_add, lv, fIf, fNot, fTest, fChain, fOp, fCall, fCons, fNil, fC, fFld, oFld, fVar, fNext, lkc, Tm.chk, a1, a2, l1, l2, en2]
    rw [this]
    exact ⟨_, rfl, _, _, _, _, rfl⟩
end
end K53
end

section
set_option Elab.async false
set_option linter.all false
set_option maxRecDepth 100000
set_option maxHeartbeats 5000000
namespace K53
open PySem L2 DL PyProof.Rows NT
section
variable {Z : Zs} {row : Addr} {W H c s : Nat} {cs : List Nat} {st : List Int}
theorem still_sd (H : Nat) : Sd H (List.replicate H 0) := ⟨List.length_replicate, fun k hk => by rw [List.eq_of_mem_replicate hk]; decide, fun k hk => by rw [List.eq_of_mem_replicate hk]; decide⟩
theorem still_sx {W H t i : Nat} (hW : 0 < W) : sx W (List.replicate H 0) t i = i := by
  have g : (List.replicate H (0 : Int)).getD (i / W) 0 = 0 := by
    rw [List.getD_eq_getElem?_getD, List.getElem?_replicate]
    split <;> rfl
  have : rem W (((i % W : Nat) : Int) - (t : Int) * (List.replicate H (0 : Int)).getD (i / W) 0) = i % W := by
    rw [g, Int.mul_zero, Int.sub_zero]
    unfold rem
    rw [Int.emod_eq_of_lt (by omega) (by have := Nat.mod_lt i hW; omega)]
    rfl
  rw [sx_eq, this, Nat.mul_comm]
  exact Nat.div_add_mod i W
theorem still_eq (g : Gb W H cs) (hc : c < W * H) {far : Nat} (hf : (far : Int) ≤ 1000000000000000000) : F__law_is_still Z row [bd Z W H cs, .int c, .int far] = .ret (.bl true) := by
  have h1 := g.w1
  have h2 := g.w5
  have h3 := g.h1
  have h4 := g.h5
  have h5 := g.len
  have h6 := g.wh
  rw [← Int.natCast_mul] at h5 h6
  have w0 : 0 < W := by omega
  have gx : cs[c]? = some (cs.getD c 0) := by
    rw [List.getD_eq_getElem?_getD, List.getElem?_eq_getElem (by omega)]
    rfl
  have sgc : sgC (cs.getD c 0) = true := List.all_eq_true.mp g.sg _ (List.mem_of_getElem? gx)
  have o : Ok W H cs (List.replicate H 0) c (cs.getD c 0) := ⟨g, still_sd H, hc, sgc⟩
  have hit : ∀ t, hitD cs W (List.replicate H 0) c (cs.getD c 0) t = true := fun t => by
    unfold hitD
    rw [still_sx w0]
    exact beq_self_eq_true _
  have e1 := seen_eq (Z := Z) (row := row) o (n := far) hf
  rw [hits_all hit, List.length_range] at e1
  have hW := hits_all (n := W) hit
  have e2 := nth_eq (Z := Z) (row := row) o (n := 5) (x := 5 % W) (by decide) (by rw [hW, List.length_range, List.getElem?_range (Nat.mod_lt _ w0)])
  rw [hW, List.length_range, show 5 / W * W + 5 % W = 5 by rw [Nat.mul_comm]; exact Nat.div_add_mod 5 W] at e2
  have em : oMulT (.tup [.int 0]) (.int (H : Int)) = some (.tup (inL (List.replicate H 0))) := by
    show gd (decide ([D.int 0] ≠ []) && decide ((1 : Int) ≤ H) && decide ((H : Int) ≤ 1000) && decide ([D.int 0].length ≤ 1000)) (.tup (List.replicate (H : Int).toNat [D.int 0]).flatten) = _
    rw [decide_eq_true (show [D.int 0] ≠ [] by simp), decide_eq_true (show (1 : Int) ≤ H by omega), decide_eq_true (show (H : Int) ≤ 1000 by omega), Int.toNat_natCast]
    show some (D.tup (List.replicate H [D.int 0]).flatten) = _
    congr 2
    unfold inL
    rw [List.map_replicate]
    clear e1 e2 hW hit o h1 h2 h3 h4 h5 h6 hc g gx sgc
    induction H with
    | zero => rfl
    | succ H ih => rw [List.replicate_succ, List.flatten_cons, ih, List.replicate_succ]; rfl
  have x0 : oIx (.str cs) (.int (c : Int)) = some (.str [cs.getD c 0]) := by
    show (if decide (cs.length ≤ 100000) = true then (atI cs (c : Int)).map fun c => D.str [c] else none) = _
    rw [if_pos (decide_eq_true (by omega)), DL.atI_nat gx]
    rfl
  have c1 : ck [D.int 0] = true := rfl
  have n1 := ne_int (a := (far : Int))
  have n2 := ne_int (a := 5)
  have e2' : F_nth_seen Z row [bd Z W H cs, .tup (inL (List.replicate H 0)), .int c, .str [cs.getD c 0], .int 5] = .ret (.int 5) := e2
  unfold F__law_is_still U__law_is_still
  unfold bd at e1 e2' ⊢
  simp [-List.getD_eq_getElem?_getD, fDef, env0, fSeq, fSet, fIf, fOr, fTest, fRet, fNext, fOp, fTup, fCall, fCons, fNil, fC, fFld, oFld, fVar, lkc, lkr, lks, Tm.chk, em, x0, c1, e1, e2', n1, n2]
theorem total4 (o : Bk W H cs st) (hc : c < W * H) (h4 : ∀ x ∈ cs, x ∈ [46, 97, 98, 99]) : ∀ n, (hits (hitD cs W st c 46) n).length + (hits (hitD cs W st c 97) n).length + (hits (hitD cs W st c 98) n).length + (hits (hitD cs W st c 99) n).length = n
  | 0 => rfl
  | n + 1 => by
    obtain ⟨w0, w5, h0, h5, ln, wh⟩ := o.nums
    have ih := total4 o hc h4 n
    rw [hits_len_succ, hits_len_succ, hits_len_succ, hits_len_succ]
    have lt := sx_lt (t := n) (st := st) w0 hc
    have gx : cs[sx W st n c]? = some (cs.getD (sx W st n c) 0) := by
      rw [List.getD_eq_getElem?_getD, List.getElem?_eq_getElem (by omega)]
      rfl
    have m := h4 _ (List.mem_of_getElem? gx)
    have e : ∀ s, hitD cs W st c s n = (cs.getD (sx W st n c) 0 == s) := fun _ => rfl
    rw [e 46, e 97, e 98, e 99]
    generalize cs.getD (sx W st n c) 0 = x at m ⊢
    clear e gx
    generalize (hits (hitD cs W st c 46) n).length = n0 at ih ⊢
    generalize (hits (hitD cs W st c 97) n).length = n1 at ih ⊢
    generalize (hits (hitD cs W st c 98) n).length = n2 at ih ⊢
    generalize (hits (hitD cs W st c 99) n).length = n3 at ih ⊢
    simp at m
    rcases m with rfl | rfl | rfl | rfl <;> simp <;> omega
theorem no_z (o : Bk W H cs st) (hc : c < W * H) (h4 : ∀ x ∈ cs, x ∈ [46, 97, 98, 99]) (n : Nat) : hits (hitD cs W st c 122) n = [] := by
  obtain ⟨w0, w5, h0, h5, ln, wh⟩ := o.nums
  refine hits_none fun t => ?_
  have lt := sx_lt (t := t) (st := st) w0 hc
  have gx : cs[sx W st t c]? = some (cs.getD (sx W st t c) 0) := by
    rw [List.getD_eq_getElem?_getD, List.getElem?_eq_getElem (by omega)]
    rfl
  have m := h4 _ (List.mem_of_getElem? gx)
  unfold hitD
  generalize cs.getD (sx W st t c) 0 = x at m ⊢
  simp at m
  rcases m with rfl | rfl | rfl | rfl <;> rfl
end
end K53
end

section
set_option Elab.async false
set_option linter.all false
set_option maxRecDepth 100000
set_option maxHeartbeats 5000000
namespace K53
open PySem L2 DL PyProof.Rows NT
/-- what stands behind the draws of a turn -/
def P6 (Z : Zs) (row : Addr) (ρ : En) : Prop := ∃ (W H c far : Nat) (cs : List Nat) (st : List Int) (t : D) (f g h i j k l m n : Option DV), Gb W H cs ∧ Sd H st ∧ c < W * H ∧ (∀ x ∈ cs, x ∈ [46, 97, 98, 99]) ∧ 100000000000000000 ≤ far ∧ far < 100000000000001000 ∧ ρ = lv row (some (.sh t)) (some (.sh (bd Z W H cs))) (some (.sh (.tup (inL st)))) (some (.sh (.int c))) (some (.sh (.int far))) f g h i j k l m n
def D6 (Z : Zs) (row : Addr) : FS := (fPar3 4 5 6 (fCons (fCall (F__law_strides Z row) 2 (fCons (fVar 1) (fCons (fFld Z.Bath (Str.ofString "row_count") (fVar 3)) fNil))) (fCons (fCall (F__law_taken Z row) 2 (fCons (fVar 1) (fCons (fLenI (F_Bath___len__ Z row) Z.Bath (fVar 3)) fNil))) (fCons (fOp oAdd (fOp oPow (fC (.int 10)) (fC (.int 17))) (fCall (F__law_taken Z row) 2 (fCons (fVar 1) (fCons (fC (.int 999)) fNil)))) fNil))))
theorem draws6 {Z : Zs} {row : Addr} {W H : Nat} {cs : List Nat} (g : Gb W H cs) (h4 : ∀ x ∈ cs, x ∈ [46, 97, 98, 99]) {t : D} {c' d e f g' h i j k l m n : Option DV} : (D6 Z row (lv row (some (.sh t)) (some (.sh (bd Z W H cs))) c' d e f g' h i j k l m n)).all (fun o => ∃ ρ1, o = .nx ρ1 ∧ P6 Z row ρ1) XF := by
  have h1 := g.h1
  have h5 := g.h5
  have ln := g.len
  rw [← Int.natCast_mul] at ln
  have sz := g.size
  have bl := bath_len_eq (Z := Z) (row := row) (w := .int W) (h := .int H) (cs := cs) (by omega)
  have len := lenI_eq (f := F_Bath___len__ Z row) (C := Z.Bath) (a := fVar 3) (ρ := lv row (some (.sh t)) (some (.sh (bd Z W H cs))) c' d e f g' h i j k l m n) (fs := bathF (.int W) (.int H) (.str cs)) rfl bl (by omega) (by omega)
  have tk := taken_eq (Z := Z) (row := row) (m := (cs.length : Int)) (by omega) (by omega)
  have t9 := taken_eq (Z := Z) (row := row) (m := 999) (by decide) (by decide)
  have ep : oPow (.int 10) (.int 17) = some (.int 100000000000000000) := by kernel_rfl
  have e1 : (fCall (F__law_strides Z row) 2 (fCons (fVar 1) (fCons (fFld Z.Bath (Str.ofString "row_count") (fVar 3)) fNil))) (lv row (some (.sh t)) (some (.sh (bd Z W H cs))) c' d e f g' h i j k l m n) = F__law_strides Z row [.ref row, .int H] := by
    simp [fCall, fCons, fNil, fVar, fFld, oFld, lv, bd, lkr, Tm.chk]
  have v1 : fVar 1 (lv row (some (.sh t)) (some (.sh (bd Z W H cs))) c' d e f g' h i j k l m n) = .ret (.ref row) := rfl
  have e2 : (fCall (F__law_taken Z row) 2 (fCons (fVar 1) (fCons (fLenI (F_Bath___len__ Z row) Z.Bath (fVar 3)) fNil))) (lv row (some (.sh t)) (some (.sh (bd Z W H cs))) c' d e f g' h i j k l m n) = .any (fun d => ∃ k : Int, d = .int k ∧ 0 ≤ k ∧ k < (cs.length : Int)) .ret := by
    simp only [fCall, fCons, fNil, v1, len, Tm.bind_ret, List.length_cons, List.length_nil, Tm.chk]
    exact tk
  have e3 : (fCall (F__law_taken Z row) 2 (fCons (fVar 1) (fCons (fC (.int 999)) fNil))) (lv row (some (.sh t)) (some (.sh (bd Z W H cs))) c' d e f g' h i j k l m n) = .any (fun d => ∃ k : Int, d = .int k ∧ 0 ≤ k ∧ k < 999) .ret := by
    simp only [fCall, fCons, fNil, fC, v1, Tm.bind_ret, List.length_cons, List.length_nil, Tm.chk]
    exact t9
  unfold D6 fPar3
  simp only [fCons, fNil] at e1 e2 ⊢
  simp only [e1, e2, fOp, fC, Tm.bind_assoc, Tm.all_bind]
  refine strides_all (H := H) (by omega) fun st sd => ?_
  rintro _ ⟨c, rfl, c0, c1⟩
  obtain ⟨c, rfl⟩ : ∃ n : Nat, c = n := ⟨c.toNat, by omega⟩
  simp only [Tm.all_ret, ep, Tm.ofO_some, e3]
  rintro _ ⟨x, rfl, x0, x1⟩
  have ea : oAdd (.int 100000000000000000) (.int x) = some (.int (100000000000000000 + x)) := rfl
  obtain ⟨far, hf⟩ : ∃ y : Nat, 100000000000000000 + x = y := ⟨(100000000000000000 + x).toNat, by omega⟩
  simp only [Tm.all_ret, ea, Tm.ofO_some, hf]
  exact ⟨_, rfl, W, H, c, far, cs, st, t, f, g', h, i, j, k, l, m, n, g, sd, by omega, h4, by omega, by omega, rfl⟩
noncomputable def TB (Z : Zs) (row : Addr) : FS := (fSeq (fSet 3 (fCall (F__law_bath Z row) 2 (fCons (fVar 1) (fCons (fC (.int 3)) fNil)))) (fSeq (D6 Z row) (fSeq (fPar 7 8 (fCons (fTup (fCons (fTup (fCons (fC (.str [114, 97, 107, 101])) (fCons (fVar 4) fNil))) fNil)) (fCons (fCall (F__law_taken Z row) 2 (fCons (fVar 1) (fCons (fC (.int 50)) fNil))) fNil))) (fSeq (fSet 9 (fCall (F_after_times Z row) 3 (fCons (fVar 3) (fCons (fVar 7) (fCons (fVar 6) fNil))))) (fSeq (fSet 10 (fC (.int 0))) (fSeq (fFor (fItems (fC (.str [46, 97, 98, 99])) DL.strOf) (hName 11) (SB Z row)) (fSeq (fIf (fOr (fTest (fOp oNe (fVar 10) (fVar 6))) (fTest (fOp oNe (fCall (F_seen_times Z row) 5 (fCons (fVar 3) (fCons (fVar 4) (fCons (fVar 5) (fCons (fC (.str [122])) (fCons (fVar 6) fNil)))))) (fC (.int 0))))) (fRet (fC (.bl false))) fNext) (fIf (fNot (fTest (fCall (F__law_is_still Z row) 3 (fCons (fVar 3) (fCons (fVar 5) (fCons (fVar 6) fNil)))))) (fRet (fC (.bl false))) fNext))))))))
theorem law_is {Z : Zs} {row : Addr} : U_law Z row = (fSeq (fFor (fRng1 (fCons (fC (.int 4)) fNil)) (hName 2) (TB Z row)) (fRet (fC (.bl true)))) := rfl
theorem turn_ok {Z : Zs} {row : Addr} {t : D} {b c' d e f g h i j k l m n : Option DV} : (TB Z row (lv row (some (.sh t)) b c' d e f g h i j k l m n)).all (fun u => ∃ ρ2, u = .nx ρ2 ∧ ∃ a b c d e f g h i j k l m n, ρ2 = lv row a b c d e f g h i j k l m n) XF := by
  unfold TB
  refine seq_any (P := fun ρ => ∃ (W H : Nat) (cs : List Nat), Gb W H cs ∧ (∀ x ∈ cs, x ∈ [46, 97, 98, 99]) ∧ ρ = lv row (some (.sh t)) (some (.sh (bd Z W H cs))) c' d e f g h i j k l m n) ?_ ?_
  · simp only [lv, fSet, fCall, fCons, fNil, fVar, fC, Tm.bind_ret, Tm.bind_assoc, Tm.all_bind, List.getElem?_cons_zero, List.getElem?_cons_succ, List.length_cons, List.length_nil, Tm.chk]
    refine law_bath_all fun w hh cs gb _ _ h4 => ?_
    obtain ⟨W, rfl⟩ : ∃ W : Nat, w = W := ⟨w.toNat, by have := gb.w1; omega⟩
    obtain ⟨H, rfl⟩ : ∃ H : Nat, hh = H := ⟨hh.toNat, by have := gb.h1; omega⟩
    exact ⟨_, rfl, W, H, cs, gb, h4, rfl⟩
  rintro _ ⟨W, H, cs, gb, h4, rfl⟩
  refine seq_any (P := P6 Z row) (draws6 gb h4) ?_
  clear gb h4 c' d e f g h i j k l m n b t
  rintro _ ⟨W, H, c, far, cs, st, t, f, g, h, i, j, k, l, m, n, gb, sd, hc, h4, f0, f1, rfl⟩
  have bk : Bk W H cs st := ⟨gb, sd⟩
  obtain ⟨w0, w5, h0, h5, ln, wh⟩ := bk.nums
  refine seq_any (P := fun ρ => ∃ more : Nat, more < 50 ∧ ρ = lv row (some (.sh t)) (some (.sh (bd Z W H cs))) (some (.sh (.tup (inL st)))) (some (.sh (.int c))) (some (.sh (.int far))) (some (.sh (REC st))) (some (.sh (.int more))) h i j k l m n) ?_ ?_
  · have t50 := taken_eq (Z := Z) (row := row) (m := 50) (by decide) (by decide)
    have c2 : ck [RAKE, .tup (inL st)] = true := rfl
    have c1 : ck [DEED st] = true := rfl
    simp only [lv, fPar, fTup, fC, fCall, fCons, fNil, fVar, List.getElem?_cons_zero, List.getElem?_cons_succ, List.length_cons, List.length_nil, c1, c2, t50, Tm.bind_ret, Tm.bind_assoc, Tm.all_bind, Tm.ofO_some, Tm.chk]
    rintro _ ⟨x, rfl, x0, x1⟩
    obtain ⟨x, rfl⟩ : ∃ y : Nat, x = y := ⟨x.toNat, by omega⟩
    exact ⟨_, rfl, x, by omega, rfl⟩
  rintro _ ⟨more, m1, rfl⟩
  refine seq_any (P := fun ρ => ρ = lv row (some (.sh t)) (some (.sh (bd Z W H cs))) (some (.sh (.tup (inL st)))) (some (.sh (.int c))) (some (.sh (.int far))) (some (.sh (REC st))) (some (.sh (.int more))) (some (.sh (bd Z W H (rk W H st far cs)))) i j k l m n) ?_ ?_
  · have ec : (fCall (F_after_times Z row) 3 (fCons (fVar 3) (fCons (fVar 7) (fCons (fVar 6) fNil)))) (lv row (some (.sh t)) (some (.sh (bd Z W H cs))) (some (.sh (.tup (inL st)))) (some (.sh (.int c))) (some (.sh (.int far))) (some (.sh (REC st))) (some (.sh (.int more))) h i j k l m n) = F_after_times Z row [bd Z W H cs, REC st, .int (far : Int)] := by
      simp [fCall, fCons, fNil, fVar, lv, Tm.chk]
    unfold fSet
    rw [ec, Tm.all_bind]
    exact after_all bk (by omega) ⟨_, rfl, rfl⟩
  rintro _ rfl
  refine seq_to (ρ1 := lv row (some (.sh t)) (some (.sh (bd Z W H cs))) (some (.sh (.tup (inL st)))) (some (.sh (.int c))) (some (.sh (.int far))) (some (.sh (REC st))) (some (.sh (.int more))) (some (.sh (bd Z W H (rk W H st far cs)))) (some (.sh (.int 0))) j k l m n) rfl ?_
  -- the four signs
  refine seq_any (P := fun ρ => ∃ j k l m n, ρ = lv row (some (.sh t)) (some (.sh (bd Z W H cs))) (some (.sh (.tup (inL st)))) (some (.sh (.int c))) (some (.sh (.int far))) (some (.sh (REC st))) (some (.sh (.int more))) (some (.sh (bd Z W H (rk W H st far cs)))) (some (.sh (.int (far : Int)))) j k l m n) ?_ ?_
  · have it : DL.strOf (.str [46, 97, 98, 99]) = some [.str [46], .str [97], .str [98], .str [99]] := rfl
    have ok : ∀ s, sgC s = true → Ok W H cs st c s := fun s hs => ⟨gb, sd, hc, hs⟩
    have tot := total4 bk hc h4 far
    simp only [fFor, fItems, fC, it, Tm.bind_ret, Tm.ofO_some]
    have step : ∀ (s : Nat), sgC s = true → ∀ (r : List D) (tot : Int) (j k l m n : Option DV) {Q : Oc → Prop}, (∀ j k l m n, (forL (hName 11) (SB Z row) r (lv row (some (.sh t)) (some (.sh (bd Z W H cs))) (some (.sh (.tup (inL st)))) (some (.sh (.int c))) (some (.sh (.int far))) (some (.sh (REC st))) (some (.sh (.int more))) (some (.sh (bd Z W H (rk W H st far cs)))) (some (.sh (.int (tot + ((hits (hitD cs W st c s) far).length : Nat))))) j k l m n)).all Q XF) →
        (forL (hName 11) (SB Z row) (.str [s] :: r) (lv row (some (.sh t)) (some (.sh (bd Z W H cs))) (some (.sh (.tup (inL st)))) (some (.sh (.int c))) (some (.sh (.int far))) (some (.sh (REC st))) (some (.sh (.int more))) (some (.sh (bd Z W H (rk W H st far cs)))) (some (.sh (.int tot))) j k l m n)).all Q XF := fun s hs r tot j k l m n Q h => by
      show ((SB Z row (lv row (some (.sh t)) (some (.sh (bd Z W H cs))) (some (.sh (.tup (inL st)))) (some (.sh (.int c))) (some (.sh (.int far))) (some (.sh (REC st))) (some (.sh (.int more))) (some (.sh (bd Z W H (rk W H st far cs)))) (some (.sh (.int tot))) (some (.sh (.str [s]))) k l m n)).bind _).all Q XF
      rw [Tm.all_bind]
      refine Tm.mono1 (fun o ho => ?_) (sign_ok (Z := Z) (row := row) (ok s hs) (t := t) f0 f1 m1 (tot := tot) (k := k) (l := l) (m := m) (n := n))
      obtain ⟨ρ2, rfl, k2, l2, m2, n2, rfl⟩ := ho
      exact h _ k2 l2 m2 n2
    refine step 46 rfl _ 0 j k l m n fun j k l m n => step 97 rfl _ _ j k l m n fun j k l m n => step 98 rfl _ _ j k l m n fun j k l m n => step 99 rfl _ _ j k l m n fun j k l m n => ?_
    refine ⟨_, rfl, j, k, l, m, n, ?_⟩
    have e : (0 : Int) + ((hits (hitD cs W st c 46) far).length : Nat) + ((hits (hitD cs W st c 97) far).length : Nat) + ((hits (hitD cs W st c 98) far).length : Nat) + ((hits (hitD cs W st c 99) far).length : Nat) = (far : Int) := by omega
    rw [e]
  rintro _ ⟨j, k, l, m, n, rfl⟩
  refine seq_to (ρ1 := lv row (some (.sh t)) (some (.sh (bd Z W H cs))) (some (.sh (.tup (inL st)))) (some (.sh (.int c))) (some (.sh (.int far))) (some (.sh (REC st))) (some (.sh (.int more))) (some (.sh (bd Z W H (rk W H st far cs)))) (some (.sh (.int (far : Int)))) j k l m n) ?_ ?_
  · have ez := seen_eq (Z := Z) (row := row) (⟨gb, sd, hc, rfl⟩ : Ok W H cs st c 122) (n := far) (by omega)
    rw [no_z bk hc h4] at ez
    have n1 := ne_int (a := (far : Int))
    have n2 := ne_int (a := ((([] : List Nat).length : Nat) : Int))
    have n2' : oNe (.int ((([] : List Nat).length : Nat) : Int)) (.int 0) = some (.bl false) := n2
    simp [lv, fIf, fOr, fTest, fOp, fCall, fCons, fNil, fC, fVar, fNext, Tm.chk, n1] at ez n2' ⊢
    simp [ez, n2']
  have es := still_eq (Z := Z) (row := row) gb hc (far := far) (by omega)
  have : (fIf (fNot (fTest (fCall (F__law_is_still Z row) 3 (fCons (fVar 3) (fCons (fVar 5) (fCons (fVar 6) fNil)))))) (fRet (fC (.bl false))) fNext) (lv row (some (.sh t)) (some (.sh (bd Z W H cs))) (some (.sh (.tup (inL st)))) (some (.sh (.int c))) (some (.sh (.int far))) (some (.sh (REC st))) (some (.sh (.int more))) (some (.sh (bd Z W H (rk W H st far cs)))) (some (.sh (.int (far : Int)))) j k l m n) = .ret (.nx (lv row (some (.sh t)) (some (.sh (bd Z W H cs))) (some (.sh (.tup (inL st)))) (some (.sh (.int c))) (some (.sh (.int far))) (some (.sh (REC st))) (some (.sh (.int more))) (some (.sh (bd Z W H (rk W H st far cs)))) (some (.sh (.int (far : Int)))) j k l m n)) := by
    simp [lv, fIf, fNot, fTest, fCall, fCons, fNil, fVar, fNext, Tm.chk, es]
  rw [this]
  exact ⟨_, rfl, _, _, _, _, _, _, _, _, _, _, _, _, _, _, rfl⟩
theorem law_ok (Z : Zs) (row : Addr) : (U_law Z row (envL 16 row)).all (endOf endT) XF := by
  rw [law_is]
  have el : envL 16 row = lv row none none none none none none none none none none none none none none := rfl
  rw [el]
  have er := rng1_eq (k := 4) (by decide) (by decide)
  refine seq_any (P := fun ρ => ∃ a b c d e f g h i j k l m n, ρ = lv row a b c d e f g h i j k l m n) ?_ ?_
  · simp only [fFor, fRng1, fCons, fNil, fC, er, Tm.bind_ret, Tm.ofO_some]
    refine forL_all (I := fun ρ => ∃ a b c d e f g h i j k l m n, ρ = lv row a b c d e f g h i j k l m n) (fun t _ ρ hI => ?_) ⟨none, none, none, none, none, none, none, none, none, none, none, none, none, none, rfl⟩
    obtain ⟨a, b, c, d, e, f, g, h, i, j, k, l, m, n, rfl⟩ := hI
    exact ⟨_, rfl, turn_ok⟩
  rintro _ ⟨a, b, c, d, e, f, g, h, i, j, k, l, m, n, rfl⟩
  exact rfl
end K53
end

section
set_option Elab.async false
set_option linter.all false
set_option maxRecDepth 100000
set_option maxHeartbeats 5000000
namespace DL
open PySem L2 PyProof.Rows PySem.Calls
open PySem.W
/-- f'..{a}..' -/
theorem fe_ok3 {prog : Program} {w : World} {a : Str} {s1 s2 : Str} {j1 j2 : Nat} {z1 z2 z3 z4 fp : Pos} {sc : Scope} (hk : sc.kind = .function) (hl : sc.names.lookup a = some .local) (hd : (a == ("__debug__" : Str)) = false) (l1 : s1.length ≤ 1000) (l2 : s2.length ≤ 1000)
    (v : V) (u : Value) (mv : MsgV v) (rv : RelV v u) (A' : Around) (E : Value → Shared → Prop) (env : Env) (m : Str → Option Value) (s' : Shared) (Q : Value → Shared → Prop) (hs : env.scope = sc) (hn : s'.heap.Ns env.locals m) (hm : m a = some u) (hQ : ∀ u tk, Q u { s' with toks := tk }) :
    wpAny (model prog w) A' (eval (.JoinedStr [.Constant (.str s1) j1 z1, .FormattedValue (.Name a z2) (-1) none z3, .Constant (.str s2) j2 z4] fp) env) Q E s' := by
  subst hs
  have b0 : (Str.empty : Str).length = 0 := rfl
  have big : ∀ n : Nat, n ≤ 3000 → n ≤ sizeLine := fun n h => Nat.le_trans h (by decide)
  refine wpAny_JoinedStr ?_
  have e0 : evalEach [Expr.Constant (.str s1) j1 z1, .FormattedValue (.Name a z2) (-1) none z3, .Constant (.str s2) j2 z4] env = [eval (.Constant (.str s1) j1 z1) env, eval (.FormattedValue (.Name a z2) (-1) none z3) env, eval (.Constant (.str s2) j2 z4) env] := by first | rfl | simp [evalEach]
  rw [e0]
  show wpAny _ _ (eval (.Constant (.str s1) j1 z1) env) _ _ _
  refine wpAny_Constant_str ?_
  refine ⟨s1, _, rfl, by rw [Str_len_app, b0]; exact big _ (by omega), ?_⟩
  show wpAny _ _ (eval (.FormattedValue (.Name a z2) (-1) none z3) env) _ _ _
  refine wpAny_FormattedValue_plain (wpAny_Name (wpAny_loadName_local hk hl hn hm ?_) hd)
  have fin : ∀ (y : Str) (t tk : Nat), y.length ≤ 1000 → ∃ y' t', Value.str y t = .str y' t' ∧ (Str.empty ++ s1 ++ y').length ≤ sizeLine ∧ Joins (model prog w) A' E [eval (.Constant (.str s2) j2 z4) env] (Str.empty ++ s1 ++ y') (fun out s₁ => out.length ≤ sizeLine ∧ Q (.str out s₁.toks) { s₁ with toks := s₁.toks + 1 }) { s' with toks := tk } := fun y t tk hy => by
    refine ⟨y, t, rfl, ?_, ?_⟩
    · rw [Str_len_app, Str_len_app, b0]
      exact big _ (by omega)
    · show wpAny _ _ (eval (.Constant (.str s2) j2 z4) env) _ _ _
      refine wpAny_Constant_str ?_
      have z : (Str.empty ++ s1 ++ y ++ s2).length ≤ sizeLine := by
        rw [Str_len_app, Str_len_app, Str_len_app, b0]
        exact big _ (by omega)
      exact ⟨s2, _, rfl, z, z, hQ _ _⟩
  rcases mv with ⟨y, rfl, hy⟩ | ⟨i, rfl, hz, hy⟩
  · obtain ⟨t, rfl⟩ := rv
    exact wpAny_formatField_str (fin y _ _ hy) (fin y _ _ hy) (big _ (by omega))
  · obtain ⟨t, rfl⟩ := rv
    exact wpAny_formatField_int hz (fin _ _ _ hy)
theorem excOk1_of3 {Γ : Ga} {C fI : Addr} {x f qual : Str} {s1 s2 : Str} {j1 j2 : Nat} {z1 z2 z3 z4 fp : Pos} {sc : Scope} (T : SupTxt Γ.P Γ.K Γ.mg C fI x f qual [.Constant (.str s1) j1 z1, .FormattedValue (.Name f z2) (-1) none z3, .Constant (.str s2) j2 z4] fp sc) (l1 : s1.length ≤ 1000) (l2 : s2.length ≤ 1000) (hd : (x == ("__debug__" : Str)) = false) : ExcOk1 Γ 1 x C f :=
  ⟨fun X e1 e2 e3 e4 e5 hr hg a ta p pos ha hs hpl => by
    have T' : SupTxt X.prog X.K X.mg C fI x f qual [.Constant (.str s1) j1 z1, .FormattedValue (.Name f z2) (-1) none z3, .Constant (.str s2) j2 z4] fp sc := by rw [e1, e3, e4]; exact T
    exact pmk_sup T' hr ha hg hd (fun v u mv rv A' E env m s' Q h1 h2 h3 h4 => fe_ok3 T.kind T.na T.nad l1 l2 v u mv rv A' E env m s' Q h1 h2 h3 h4) hs hpl⟩
end DL
end

section
set_option Elab.async false
set_option linter.all false
set_option maxRecDepth 100000
set_option maxHeartbeats 5000000
namespace K53
open PySem L2 DL PyProof.Rows LamX
theorem DSs.wk {Γ : Ga} {k : Nat} {N : List Str} {st : Stmt} {E : XR} {c : Addr} {q : Str} {ss : List Stmt} {W : TDS} (h : DSs (gaOf Γ k N st E) ss W) : DSs (gaLaw Γ k N st E c q) ss W := by
  obtain ⟨t, p, s⟩ := h
  exact ⟨t, fun X o => p X { prog := o.prog, w := o.w, K := o.K, mg := o.mg, base := o.base, N := o.N, sc := o.sc, roomW := o.roomW, hnone := o.hnone, calm := o.calm, extra := trivial, pass := o.pass, takes := o.takes, fn := o.fn }, s⟩
theorem all_mk {l : PySem.W.OpenLaw} (hl : l.prog = PySem.Challenge.pw_rakedpapers_k53_whole_rakes_counted) {w : World} {K : PySem.W.Frag} {h : Heap} {mg : Str → Option Value} {fa : Addr} (X : K.In h) (G : h.Ns mainGlobals mg) (hfa : mg "law" = some (.ref fa))
    {cL : Addr}
    {f_is_number : Addr} {od_is_number an_is_number : Option Addr} {sl_is_number : Array (Option Value)} {oc_is_number kV_is_number dc_is_number pm_is_number cd_is_number ct_is_number : Value}
    {f_is_letter : Addr} {od_is_letter an_is_letter : Option Addr} {sl_is_letter : Array (Option Value)} {oc_is_letter kV_is_letter dc_is_letter pm_is_letter cd_is_letter ct_is_letter : Value}
    {f_is_sign : Addr} {od_is_sign an_is_sign : Option Addr} {sl_is_sign : Array (Option Value)} {oc_is_sign kV_is_sign dc_is_sign pm_is_sign cd_is_sign ct_is_sign : Value}
    {f_is_sign_text : Addr} {od_is_sign_text an_is_sign_text : Option Addr} {sl_is_sign_text : Array (Option Value)} {oc_is_sign_text kV_is_sign_text dc_is_sign_text pm_is_sign_text cd_is_sign_text ct_is_sign_text : Value}
    {f_wrong_side : Addr} {od_wrong_side an_wrong_side : Option Addr} {sl_wrong_side : Array (Option Value)} {oc_wrong_side kV_wrong_side dc_wrong_side pm_wrong_side cd_wrong_side ct_wrong_side : Value}
    {f_is_cell : Addr} {od_is_cell an_is_cell : Option Addr} {sl_is_cell : Array (Option Value)} {oc_is_cell kV_is_cell dc_is_cell pm_is_cell cd_is_cell ct_is_cell : Value}
    {f_are_strides : Addr} {od_are_strides an_are_strides : Option Addr} {sl_are_strides : Array (Option Value)} {oc_are_strides kV_are_strides dc_are_strides pm_are_strides cd_are_strides ct_are_strides : Value}
    {f_is_deed : Addr} {od_is_deed an_is_deed : Option Addr} {sl_is_deed : Array (Option Value)} {oc_is_deed kV_is_deed dc_is_deed pm_is_deed cd_is_deed ct_is_deed : Value}
    {f_check_recipe : Addr} {od_check_recipe an_check_recipe : Option Addr} {sl_check_recipe : Array (Option Value)} {oc_check_recipe kV_check_recipe dc_check_recipe pm_check_recipe cd_check_recipe ct_check_recipe : Value}
    {f_check_cell : Addr} {od_check_cell an_check_cell : Option Addr} {sl_check_cell : Array (Option Value)} {oc_check_cell kV_check_cell dc_check_cell pm_check_cell cd_check_cell ct_check_cell : Value}
    {f_check_sign : Addr} {od_check_sign an_check_sign : Option Addr} {sl_check_sign : Array (Option Value)} {oc_check_sign kV_check_sign dc_check_sign pm_check_sign cd_check_sign ct_check_sign : Value}
    {f_check_number : Addr} {od_check_number an_check_number : Option Addr} {sl_check_number : Array (Option Value)} {oc_check_number kV_check_number dc_check_number pm_check_number cd_check_number ct_check_number : Value}
    {f_raked_from : Addr} {od_raked_from an_raked_from : Option Addr} {sl_raked_from : Array (Option Value)} {oc_raked_from kV_raked_from dc_raked_from pm_raked_from cd_raked_from ct_raked_from : Value}
    {f_moved_from : Addr} {od_moved_from an_moved_from : Option Addr} {sl_moved_from : Array (Option Value)} {oc_moved_from kV_moved_from dc_moved_from pm_moved_from cd_moved_from ct_moved_from : Value}
    {f_things_after : Addr} {od_things_after an_things_after : Option Addr} {sl_things_after : Array (Option Value)} {oc_things_after kV_things_after dc_things_after pm_things_after cd_things_after ct_things_after : Value}
    {f_new_sign : Addr} {od_new_sign an_new_sign : Option Addr} {sl_new_sign : Array (Option Value)} {oc_new_sign kV_new_sign dc_new_sign pm_new_sign cd_new_sign ct_new_sign : Value}
    {f_new_signs : Addr} {od_new_signs an_new_signs : Option Addr} {sl_new_signs : Array (Option Value)} {oc_new_signs kV_new_signs dc_new_signs pm_new_signs cd_new_signs ct_new_signs : Value}
    {f_things_done : Addr} {od_things_done an_things_done : Option Addr} {sl_things_done : Array (Option Value)} {oc_things_done kV_things_done dc_things_done pm_things_done cd_things_done ct_things_done : Value}
    {f__law_taken : Addr} {od__law_taken an__law_taken : Option Addr} {sl__law_taken : Array (Option Value)} {oc__law_taken kV__law_taken dc__law_taken pm__law_taken cd__law_taken ct__law_taken : Value}
    {f_done : Addr} {od_done an_done : Option Addr} {sl_done : Array (Option Value)} {oc_done kV_done dc_done pm_done cd_done ct_done : Value}
    {f_times_in_turn : Addr} {od_times_in_turn an_times_in_turn : Option Addr} {sl_times_in_turn : Array (Option Value)} {oc_times_in_turn kV_times_in_turn dc_times_in_turn pm_times_in_turn cd_times_in_turn ct_times_in_turn : Value}
    {f_seen_times : Addr} {od_seen_times an_seen_times : Option Addr} {sl_seen_times : Array (Option Value)} {oc_seen_times kV_seen_times dc_seen_times pm_seen_times cd_seen_times ct_seen_times : Value}
    {f_nth_seen : Addr} {od_nth_seen an_nth_seen : Option Addr} {sl_nth_seen : Array (Option Value)} {oc_nth_seen kV_nth_seen dc_nth_seen pm_nth_seen cd_nth_seen ct_nth_seen : Value}
    {f__law_bath : Addr} {od__law_bath an__law_bath : Option Addr} {sl__law_bath : Array (Option Value)} {oc__law_bath kV__law_bath dc__law_bath pm__law_bath cd__law_bath ct__law_bath : Value}
    {f__law_strides : Addr} {od__law_strides an__law_strides : Option Addr} {sl__law_strides : Array (Option Value)} {oc__law_strides kV__law_strides dc__law_strides pm__law_strides cd__law_strides ct__law_strides : Value}
    {f__law_is_still : Addr} {od__law_is_still an__law_is_still : Option Addr} {sl__law_is_still : Array (Option Value)} {oc__law_is_still kV__law_is_still dc__law_is_still pm__law_is_still cd__law_is_still ct__law_is_still : Value}
    {f_texts_and_begin : Addr} {od_texts_and_begin an_texts_and_begin : Option Addr} {sl_texts_and_begin : Array (Option Value)} {oc_texts_and_begin kV_texts_and_begin dc_texts_and_begin pm_texts_and_begin cd_texts_and_begin ct_texts_and_begin : Value}
    {f_after_times : Addr} {od_after_times an_after_times : Option Addr} {sl_after_times : Array (Option Value)} {oc_after_times kV_after_times dc_after_times pm_after_times cd_after_times ct_after_times : Value}
    {f_law : Addr} {od_law an_law : Option Addr} {sl_law : Array (Option Value)} {oc_law kV_law dc_law pm_law cd_law ct_law : Value}
    {C_BathError C_InvalidBath C_InvalidRecipe C_UnknownCell C_InvalidSign C_InvalidDeed C_InvalidNumber C_Bath : Addr}
    {t_LETTERS : Tok}
    {t_NOTHING : Tok}
    {t_MOST_SIDE : Tok}
    {t_MOST_CELLS : Tok}
    {t_MOST_STRIDE : Tok}
    {t_MOST_DEEDS : Tok}
    {t_MOST_TIMES : Tok}
    {t_MOST_SEEN : Tok}
    {f_Bath___init__ : Addr}
    {od_Bath___init__ an_Bath___init__ : Option Addr} {sl_Bath___init__ : Array (Option Value)} {oc_Bath___init__ kV_Bath___init__ dc_Bath___init__ pm_Bath___init__ cd_Bath___init__ ct_Bath___init__ : Value}
    {f_Bath___len__ : Addr}
    {od_Bath___len__ an_Bath___len__ : Option Addr} {sl_Bath___len__ : Array (Option Value)} {oc_Bath___len__ kV_Bath___len__ dc_Bath___len__ pm_Bath___len__ cd_Bath___len__ ct_Bath___len__ : Value}
    {f_Bath___eq__ : Addr}
    {od_Bath___eq__ an_Bath___eq__ : Option Addr} {sl_Bath___eq__ : Array (Option Value)} {oc_Bath___eq__ kV_Bath___eq__ dc_Bath___eq__ pm_Bath___eq__ cd_Bath___eq__ ct_Bath___eq__ : Value}
    {p_Bath_width f_Bath_width : Addr} {r_Bath_width : List Value}
    {od_Bath_width an_Bath_width : Option Addr} {sl_Bath_width : Array (Option Value)} {oc_Bath_width kV_Bath_width dc_Bath_width pm_Bath_width cd_Bath_width ct_Bath_width : Value}
    {p_Bath_height f_Bath_height : Addr} {r_Bath_height : List Value}
    {od_Bath_height an_Bath_height : Option Addr} {sl_Bath_height : Array (Option Value)} {oc_Bath_height kV_Bath_height dc_Bath_height pm_Bath_height cd_Bath_height ct_Bath_height : Value}
    {p_Bath_cells f_Bath_cells : Addr} {r_Bath_cells : List Value}
    {od_Bath_cells an_Bath_cells : Option Addr} {sl_Bath_cells : Array (Option Value)} {oc_Bath_cells kV_Bath_cells dc_Bath_cells pm_Bath_cells cd_Bath_cells ct_Bath_cells : Value}
    {nm q : Str} {N : Addr} {bs : List Value} {hdct : Bool} {sn : List Str} {sub : List Value} {ab : Bool} {col : Option Bool} {dd : Option Addr} {k0 k1 k2 k3 k5 : Option Value} {newId : String}
    {nm2_x0 q2_x0 : Str} {N2_x0 : Addr} {bs2_x0 bm2_x0 : List Value} {sn2_x0 : List Str} {sub2_x0 : List Value} {ab2_x0 : Bool} {col2_x0 : Option Bool} {dd2_x0 : Option Addr} {h0_x0 h1_x0 h2_x0 h3_x0 h5_x0 : Option Value} {fI_x0 : Addr}
    {ocI_x0 dcI_x0 pmI_x0 ctI_x0 : Value} {odI_x0 anI_x0 : Option Addr} {cdaI_x0 ccI_x0 : Addr} {slI_x0 : Array (Option Value)} {cclI_x0 clI_x0 : Value} {cddI_x0 cldI_x0 : Option Addr} {ccsI_x0 cslI_x0 : Array (Option Value)} {vsI_x0 : Array Value} {fileI_x0 : Str} {tfI_x0 : Tok}
    (a_is_number : PySem.W.nsIn K mainGlobals "is_number" = some (some (.ref f_is_number)))
    (l_is_number : K.lookup f_is_number = some ⟨oc_is_number, od_is_number, .func (PySem.W.fnOf "is_number" "is_number" (defArgs s_is_number) (defBody s_is_number) (defScope s_is_number) .none kV_is_number dc_is_number pm_is_number an_is_number cd_is_number ct_is_number), sl_is_number⟩)
    (c_is_number : PySem.W.codeIn K cd_is_number "is_number" = true)
    (k_is_number : PySem.W.keepIn K (.ref f_is_number) = true)
    (a_is_letter : PySem.W.nsIn K mainGlobals "is_letter" = some (some (.ref f_is_letter)))
    (l_is_letter : K.lookup f_is_letter = some ⟨oc_is_letter, od_is_letter, .func (PySem.W.fnOf "is_letter" "is_letter" (defArgs s_is_letter) (defBody s_is_letter) (defScope s_is_letter) .none kV_is_letter dc_is_letter pm_is_letter an_is_letter cd_is_letter ct_is_letter), sl_is_letter⟩)
    (c_is_letter : PySem.W.codeIn K cd_is_letter "is_letter" = true)
    (k_is_letter : PySem.W.keepIn K (.ref f_is_letter) = true)
    (a_is_sign : PySem.W.nsIn K mainGlobals "is_sign" = some (some (.ref f_is_sign)))
    (l_is_sign : K.lookup f_is_sign = some ⟨oc_is_sign, od_is_sign, .func (PySem.W.fnOf "is_sign" "is_sign" (defArgs s_is_sign) (defBody s_is_sign) (defScope s_is_sign) .none kV_is_sign dc_is_sign pm_is_sign an_is_sign cd_is_sign ct_is_sign), sl_is_sign⟩)
    (c_is_sign : PySem.W.codeIn K cd_is_sign "is_sign" = true)
    (k_is_sign : PySem.W.keepIn K (.ref f_is_sign) = true)
    (a_is_sign_text : PySem.W.nsIn K mainGlobals "is_sign_text" = some (some (.ref f_is_sign_text)))
    (l_is_sign_text : K.lookup f_is_sign_text = some ⟨oc_is_sign_text, od_is_sign_text, .func (PySem.W.fnOf "is_sign_text" "is_sign_text" (defArgs s_is_sign_text) (defBody s_is_sign_text) (defScope s_is_sign_text) .none kV_is_sign_text dc_is_sign_text pm_is_sign_text an_is_sign_text cd_is_sign_text ct_is_sign_text), sl_is_sign_text⟩)
    (c_is_sign_text : PySem.W.codeIn K cd_is_sign_text "is_sign_text" = true)
    (k_is_sign_text : PySem.W.keepIn K (.ref f_is_sign_text) = true)
    (a_wrong_side : PySem.W.nsIn K mainGlobals "wrong_side" = some (some (.ref f_wrong_side)))
    (l_wrong_side : K.lookup f_wrong_side = some ⟨oc_wrong_side, od_wrong_side, .func (PySem.W.fnOf "wrong_side" "wrong_side" (defArgs s_wrong_side) (defBody s_wrong_side) (defScope s_wrong_side) .none kV_wrong_side dc_wrong_side pm_wrong_side an_wrong_side cd_wrong_side ct_wrong_side), sl_wrong_side⟩)
    (c_wrong_side : PySem.W.codeIn K cd_wrong_side "wrong_side" = true)
    (k_wrong_side : PySem.W.keepIn K (.ref f_wrong_side) = true)
    (a_is_cell : PySem.W.nsIn K mainGlobals "is_cell" = some (some (.ref f_is_cell)))
    (l_is_cell : K.lookup f_is_cell = some ⟨oc_is_cell, od_is_cell, .func (PySem.W.fnOf "is_cell" "is_cell" (defArgs s_is_cell) (defBody s_is_cell) (defScope s_is_cell) .none kV_is_cell dc_is_cell pm_is_cell an_is_cell cd_is_cell ct_is_cell), sl_is_cell⟩)
    (c_is_cell : PySem.W.codeIn K cd_is_cell "is_cell" = true)
    (k_is_cell : PySem.W.keepIn K (.ref f_is_cell) = true)
    (a_are_strides : PySem.W.nsIn K mainGlobals "are_strides" = some (some (.ref f_are_strides)))
    (l_are_strides : K.lookup f_are_strides = some ⟨oc_are_strides, od_are_strides, .func (PySem.W.fnOf "are_strides" "are_strides" (defArgs s_are_strides) (defBody s_are_strides) (defScope s_are_strides) .none kV_are_strides dc_are_strides pm_are_strides an_are_strides cd_are_strides ct_are_strides), sl_are_strides⟩)
    (c_are_strides : PySem.W.codeIn K cd_are_strides "are_strides" = true)
    (k_are_strides : PySem.W.keepIn K (.ref f_are_strides) = true)
    (a_is_deed : PySem.W.nsIn K mainGlobals "is_deed" = some (some (.ref f_is_deed)))
    (l_is_deed : K.lookup f_is_deed = some ⟨oc_is_deed, od_is_deed, .func (PySem.W.fnOf "is_deed" "is_deed" (defArgs s_is_deed) (defBody s_is_deed) (defScope s_is_deed) .none kV_is_deed dc_is_deed pm_is_deed an_is_deed cd_is_deed ct_is_deed), sl_is_deed⟩)
    (c_is_deed : PySem.W.codeIn K cd_is_deed "is_deed" = true)
    (k_is_deed : PySem.W.keepIn K (.ref f_is_deed) = true)
    (a_check_recipe : PySem.W.nsIn K mainGlobals "check_recipe" = some (some (.ref f_check_recipe)))
    (l_check_recipe : K.lookup f_check_recipe = some ⟨oc_check_recipe, od_check_recipe, .func (PySem.W.fnOf "check_recipe" "check_recipe" (defArgs s_check_recipe) (defBody s_check_recipe) (defScope s_check_recipe) .none kV_check_recipe dc_check_recipe pm_check_recipe an_check_recipe cd_check_recipe ct_check_recipe), sl_check_recipe⟩)
    (c_check_recipe : PySem.W.codeIn K cd_check_recipe "check_recipe" = true)
    (k_check_recipe : PySem.W.keepIn K (.ref f_check_recipe) = true)
    (a_check_cell : PySem.W.nsIn K mainGlobals "check_cell" = some (some (.ref f_check_cell)))
    (l_check_cell : K.lookup f_check_cell = some ⟨oc_check_cell, od_check_cell, .func (PySem.W.fnOf "check_cell" "check_cell" (defArgs s_check_cell) (defBody s_check_cell) (defScope s_check_cell) .none kV_check_cell dc_check_cell pm_check_cell an_check_cell cd_check_cell ct_check_cell), sl_check_cell⟩)
    (c_check_cell : PySem.W.codeIn K cd_check_cell "check_cell" = true)
    (k_check_cell : PySem.W.keepIn K (.ref f_check_cell) = true)
    (a_check_sign : PySem.W.nsIn K mainGlobals "check_sign" = some (some (.ref f_check_sign)))
    (l_check_sign : K.lookup f_check_sign = some ⟨oc_check_sign, od_check_sign, .func (PySem.W.fnOf "check_sign" "check_sign" (defArgs s_check_sign) (defBody s_check_sign) (defScope s_check_sign) .none kV_check_sign dc_check_sign pm_check_sign an_check_sign cd_check_sign ct_check_sign), sl_check_sign⟩)
    (c_check_sign : PySem.W.codeIn K cd_check_sign "check_sign" = true)
    (k_check_sign : PySem.W.keepIn K (.ref f_check_sign) = true)
    (a_check_number : PySem.W.nsIn K mainGlobals "check_number" = some (some (.ref f_check_number)))
    (l_check_number : K.lookup f_check_number = some ⟨oc_check_number, od_check_number, .func (PySem.W.fnOf "check_number" "check_number" (defArgs s_check_number) (defBody s_check_number) (defScope s_check_number) .none kV_check_number dc_check_number pm_check_number an_check_number cd_check_number ct_check_number), sl_check_number⟩)
    (c_check_number : PySem.W.codeIn K cd_check_number "check_number" = true)
    (k_check_number : PySem.W.keepIn K (.ref f_check_number) = true)
    (a_raked_from : PySem.W.nsIn K mainGlobals "raked_from" = some (some (.ref f_raked_from)))
    (l_raked_from : K.lookup f_raked_from = some ⟨oc_raked_from, od_raked_from, .func (PySem.W.fnOf "raked_from" "raked_from" (defArgs s_raked_from) (defBody s_raked_from) (defScope s_raked_from) .none kV_raked_from dc_raked_from pm_raked_from an_raked_from cd_raked_from ct_raked_from), sl_raked_from⟩)
    (c_raked_from : PySem.W.codeIn K cd_raked_from "raked_from" = true)
    (k_raked_from : PySem.W.keepIn K (.ref f_raked_from) = true)
    (a_moved_from : PySem.W.nsIn K mainGlobals "moved_from" = some (some (.ref f_moved_from)))
    (l_moved_from : K.lookup f_moved_from = some ⟨oc_moved_from, od_moved_from, .func (PySem.W.fnOf "moved_from" "moved_from" (defArgs s_moved_from) (defBody s_moved_from) (defScope s_moved_from) .none kV_moved_from dc_moved_from pm_moved_from an_moved_from cd_moved_from ct_moved_from), sl_moved_from⟩)
    (c_moved_from : PySem.W.codeIn K cd_moved_from "moved_from" = true)
    (k_moved_from : PySem.W.keepIn K (.ref f_moved_from) = true)
    (a_things_after : PySem.W.nsIn K mainGlobals "things_after" = some (some (.ref f_things_after)))
    (l_things_after : K.lookup f_things_after = some ⟨oc_things_after, od_things_after, .func (PySem.W.fnOf "things_after" "things_after" (defArgs s_things_after) (defBody s_things_after) (defScope s_things_after) .none kV_things_after dc_things_after pm_things_after an_things_after cd_things_after ct_things_after), sl_things_after⟩)
    (c_things_after : PySem.W.codeIn K cd_things_after "things_after" = true)
    (k_things_after : PySem.W.keepIn K (.ref f_things_after) = true)
    (a_new_sign : PySem.W.nsIn K mainGlobals "new_sign" = some (some (.ref f_new_sign)))
    (l_new_sign : K.lookup f_new_sign = some ⟨oc_new_sign, od_new_sign, .func (PySem.W.fnOf "new_sign" "new_sign" (defArgs s_new_sign) (defBody s_new_sign) (defScope s_new_sign) .none kV_new_sign dc_new_sign pm_new_sign an_new_sign cd_new_sign ct_new_sign), sl_new_sign⟩)
    (c_new_sign : PySem.W.codeIn K cd_new_sign "new_sign" = true)
    (k_new_sign : PySem.W.keepIn K (.ref f_new_sign) = true)
    (a_new_signs : PySem.W.nsIn K mainGlobals "new_signs" = some (some (.ref f_new_signs)))
    (l_new_signs : K.lookup f_new_signs = some ⟨oc_new_signs, od_new_signs, .func (PySem.W.fnOf "new_signs" "new_signs" (defArgs s_new_signs) (defBody s_new_signs) (defScope s_new_signs) .none kV_new_signs dc_new_signs pm_new_signs an_new_signs cd_new_signs ct_new_signs), sl_new_signs⟩)
    (c_new_signs : PySem.W.codeIn K cd_new_signs "new_signs" = true)
    (k_new_signs : PySem.W.keepIn K (.ref f_new_signs) = true)
    (a_things_done : PySem.W.nsIn K mainGlobals "things_done" = some (some (.ref f_things_done)))
    (l_things_done : K.lookup f_things_done = some ⟨oc_things_done, od_things_done, .func (PySem.W.fnOf "things_done" "things_done" (defArgs s_things_done) (defBody s_things_done) (defScope s_things_done) .none kV_things_done dc_things_done pm_things_done an_things_done cd_things_done ct_things_done), sl_things_done⟩)
    (c_things_done : PySem.W.codeIn K cd_things_done "things_done" = true)
    (k_things_done : PySem.W.keepIn K (.ref f_things_done) = true)
    (a__law_taken : PySem.W.nsIn K mainGlobals "_law_taken" = some (some (.ref f__law_taken)))
    (l__law_taken : K.lookup f__law_taken = some ⟨oc__law_taken, od__law_taken, .func (PySem.W.fnOf "_law_taken" "_law_taken" (defArgs s__law_taken) (defBody s__law_taken) (defScope s__law_taken) .none kV__law_taken dc__law_taken pm__law_taken an__law_taken cd__law_taken ct__law_taken), sl__law_taken⟩)
    (c__law_taken : PySem.W.codeIn K cd__law_taken "_law_taken" = true)
    (k__law_taken : PySem.W.keepIn K (.ref f__law_taken) = true)
    (a_done : PySem.W.nsIn K mainGlobals "done" = some (some (.ref f_done)))
    (l_done : K.lookup f_done = some ⟨oc_done, od_done, .func (PySem.W.fnOf "done" "done" (defArgs s_done) (defBody s_done) (defScope s_done) .none kV_done dc_done pm_done an_done cd_done ct_done), sl_done⟩)
    (c_done : PySem.W.codeIn K cd_done "done" = true)
    (k_done : PySem.W.keepIn K (.ref f_done) = true)
    (a_times_in_turn : PySem.W.nsIn K mainGlobals "times_in_turn" = some (some (.ref f_times_in_turn)))
    (l_times_in_turn : K.lookup f_times_in_turn = some ⟨oc_times_in_turn, od_times_in_turn, .func (PySem.W.fnOf "times_in_turn" "times_in_turn" (defArgs s_times_in_turn) (defBody s_times_in_turn) (defScope s_times_in_turn) .none kV_times_in_turn dc_times_in_turn pm_times_in_turn an_times_in_turn cd_times_in_turn ct_times_in_turn), sl_times_in_turn⟩)
    (c_times_in_turn : PySem.W.codeIn K cd_times_in_turn "times_in_turn" = true)
    (k_times_in_turn : PySem.W.keepIn K (.ref f_times_in_turn) = true)
    (a_seen_times : PySem.W.nsIn K mainGlobals "seen_times" = some (some (.ref f_seen_times)))
    (l_seen_times : K.lookup f_seen_times = some ⟨oc_seen_times, od_seen_times, .func (PySem.W.fnOf "seen_times" "seen_times" (defArgs s_seen_times) (defBody s_seen_times) (defScope s_seen_times) .none kV_seen_times dc_seen_times pm_seen_times an_seen_times cd_seen_times ct_seen_times), sl_seen_times⟩)
    (c_seen_times : PySem.W.codeIn K cd_seen_times "seen_times" = true)
    (k_seen_times : PySem.W.keepIn K (.ref f_seen_times) = true)
    (a_nth_seen : PySem.W.nsIn K mainGlobals "nth_seen" = some (some (.ref f_nth_seen)))
    (l_nth_seen : K.lookup f_nth_seen = some ⟨oc_nth_seen, od_nth_seen, .func (PySem.W.fnOf "nth_seen" "nth_seen" (defArgs s_nth_seen) (defBody s_nth_seen) (defScope s_nth_seen) .none kV_nth_seen dc_nth_seen pm_nth_seen an_nth_seen cd_nth_seen ct_nth_seen), sl_nth_seen⟩)
    (c_nth_seen : PySem.W.codeIn K cd_nth_seen "nth_seen" = true)
    (k_nth_seen : PySem.W.keepIn K (.ref f_nth_seen) = true)
    (a__law_bath : PySem.W.nsIn K mainGlobals "_law_bath" = some (some (.ref f__law_bath)))
    (l__law_bath : K.lookup f__law_bath = some ⟨oc__law_bath, od__law_bath, .func (PySem.W.fnOf "_law_bath" "_law_bath" (defArgs s__law_bath) (defBody s__law_bath) (defScope s__law_bath) .none kV__law_bath dc__law_bath pm__law_bath an__law_bath cd__law_bath ct__law_bath), sl__law_bath⟩)
    (c__law_bath : PySem.W.codeIn K cd__law_bath "_law_bath" = true)
    (k__law_bath : PySem.W.keepIn K (.ref f__law_bath) = true)
    (a__law_strides : PySem.W.nsIn K mainGlobals "_law_strides" = some (some (.ref f__law_strides)))
    (l__law_strides : K.lookup f__law_strides = some ⟨oc__law_strides, od__law_strides, .func (PySem.W.fnOf "_law_strides" "_law_strides" (defArgs s__law_strides) (defBody s__law_strides) (defScope s__law_strides) .none kV__law_strides dc__law_strides pm__law_strides an__law_strides cd__law_strides ct__law_strides), sl__law_strides⟩)
    (c__law_strides : PySem.W.codeIn K cd__law_strides "_law_strides" = true)
    (k__law_strides : PySem.W.keepIn K (.ref f__law_strides) = true)
    (a__law_is_still : PySem.W.nsIn K mainGlobals "_law_is_still" = some (some (.ref f__law_is_still)))
    (l__law_is_still : K.lookup f__law_is_still = some ⟨oc__law_is_still, od__law_is_still, .func (PySem.W.fnOf "_law_is_still" "_law_is_still" (defArgs s__law_is_still) (defBody s__law_is_still) (defScope s__law_is_still) .none kV__law_is_still dc__law_is_still pm__law_is_still an__law_is_still cd__law_is_still ct__law_is_still), sl__law_is_still⟩)
    (c__law_is_still : PySem.W.codeIn K cd__law_is_still "_law_is_still" = true)
    (k__law_is_still : PySem.W.keepIn K (.ref f__law_is_still) = true)
    (a_texts_and_begin : PySem.W.nsIn K mainGlobals "texts_and_begin" = some (some (.ref f_texts_and_begin)))
    (l_texts_and_begin : K.lookup f_texts_and_begin = some ⟨oc_texts_and_begin, od_texts_and_begin, .func (PySem.W.fnOf "texts_and_begin" "texts_and_begin" (defArgs s_texts_and_begin) (defBody s_texts_and_begin) (defScope s_texts_and_begin) .none kV_texts_and_begin dc_texts_and_begin pm_texts_and_begin an_texts_and_begin cd_texts_and_begin ct_texts_and_begin), sl_texts_and_begin⟩)
    (c_texts_and_begin : PySem.W.codeIn K cd_texts_and_begin "texts_and_begin" = true)
    (k_texts_and_begin : PySem.W.keepIn K (.ref f_texts_and_begin) = true)
    (a_after_times : PySem.W.nsIn K mainGlobals "after_times" = some (some (.ref f_after_times)))
    (l_after_times : K.lookup f_after_times = some ⟨oc_after_times, od_after_times, .func (PySem.W.fnOf "after_times" "after_times" (defArgs s_after_times) (defBody s_after_times) (defScope s_after_times) .none kV_after_times dc_after_times pm_after_times an_after_times cd_after_times ct_after_times), sl_after_times⟩)
    (c_after_times : PySem.W.codeIn K cd_after_times "after_times" = true)
    (k_after_times : PySem.W.keepIn K (.ref f_after_times) = true)
    (a_law : PySem.W.nsIn K mainGlobals "law" = some (some (.ref f_law)))
    (l_law : K.lookup f_law = some ⟨oc_law, od_law, .func (PySem.W.fnOf "law" "law" (defArgs s_law) (defBody s_law) (defScope s_law) .none kV_law dc_law pm_law an_law (.ref cL) ct_law), sl_law⟩)
    (c_law : PySem.W.codeIn K (.ref cL) "law" = true)
    (k_law : PySem.W.keepIn K (.ref f_law) = true)
    (ac_BathError : PySem.W.nsIn K mainGlobals "BathError" = some (some (.ref C_BathError)))
    (ac_InvalidBath : PySem.W.nsIn K mainGlobals "InvalidBath" = some (some (.ref C_InvalidBath)))
    (ac_InvalidRecipe : PySem.W.nsIn K mainGlobals "InvalidRecipe" = some (some (.ref C_InvalidRecipe)))
    (ac_UnknownCell : PySem.W.nsIn K mainGlobals "UnknownCell" = some (some (.ref C_UnknownCell)))
    (ac_InvalidSign : PySem.W.nsIn K mainGlobals "InvalidSign" = some (some (.ref C_InvalidSign)))
    (ac_InvalidDeed : PySem.W.nsIn K mainGlobals "InvalidDeed" = some (some (.ref C_InvalidDeed)))
    (ac_InvalidNumber : PySem.W.nsIn K mainGlobals "InvalidNumber" = some (some (.ref C_InvalidNumber)))
    (ac_Bath : PySem.W.nsIn K mainGlobals "Bath" = some (some (.ref C_Bath)))
    (z_int : PySem.W.nsIn K mainGlobals "int" = some none)
    (z_bool : PySem.W.nsIn K mainGlobals "bool" = some none)
    (z_str : PySem.W.nsIn K mainGlobals "str" = some none)
    (z_tuple : PySem.W.nsIn K mainGlobals "tuple" = some none)
    (z_list : PySem.W.nsIn K mainGlobals "list" = some none)
    (z_len : PySem.W.nsIn K mainGlobals "len" = some none)
    (z_all : PySem.W.nsIn K mainGlobals "all" = some none)
    (z_range : PySem.W.nsIn K mainGlobals "range" = some none)
    (z_isinstance : PySem.W.nsIn K mainGlobals "isinstance" = some none)
    (z_enumerate : PySem.W.nsIn K mainGlobals "enumerate" = some none)
    (z_zip : PySem.W.nsIn K mainGlobals "zip" = some none)
    (z_divmod : PySem.W.nsIn K mainGlobals "divmod" = some none)
    (z_super : PySem.W.nsIn K mainGlobals "super" = some none)
    (z_ValueError : PySem.W.nsIn K mainGlobals "ValueError" = some none)
    (g_LETTERS : PySem.W.nsIn K mainGlobals "LETTERS" = some (some (.str (S [97, 98, 99, 100, 101, 102, 103, 104, 105, 106, 107, 108, 109, 110, 111, 112, 113, 114, 115, 116, 117, 118, 119, 120, 121, 122]) t_LETTERS)))
    (g_NOTHING : PySem.W.nsIn K mainGlobals "NOTHING" = some (some (.str (S [46]) t_NOTHING)))
    (g_MOST_SIDE : PySem.W.nsIn K mainGlobals "MOST_SIDE" = some (some (.int 5 t_MOST_SIDE)))
    (g_MOST_CELLS : PySem.W.nsIn K mainGlobals "MOST_CELLS" = some (some (.int 12 t_MOST_CELLS)))
    (g_MOST_STRIDE : PySem.W.nsIn K mainGlobals "MOST_STRIDE" = some (some (.int 9 t_MOST_STRIDE)))
    (g_MOST_DEEDS : PySem.W.nsIn K mainGlobals "MOST_DEEDS" = some (some (.int 12 t_MOST_DEEDS)))
    (g_MOST_TIMES : PySem.W.nsIn K mainGlobals "MOST_TIMES" = some (some (.int 1000000000000000000 t_MOST_TIMES)))
    (g_MOST_SEEN : PySem.W.nsIn K mainGlobals "MOST_SEEN" = some (some (.int 1000000000000000 t_MOST_SEEN)))
    (pg : PySem.W.plainGet K C_Bath Str.empty = true)
    (hd : PySem.W.hasDictIn K C_Bath = true)
    (po : PySem.W.plainOver K C_Bath = true)
    (sa : PySem.W.findIn K (.ref C_Bath) "__setattr__" = some (some (.builtin "object.__setattr__")))
    (mk : PySem.W.makesIn K C_Bath = true)
    (kc : PySem.W.keepIn K (.ref C_Bath) = true)
    (na_column_count : PySem.W.findIn K (.ref C_Bath) "column_count" = some none)
    (na_row_count : PySem.W.findIn K (.ref C_Bath) "row_count" = some none)
    (na_signs : PySem.W.findIn K (.ref C_Bath) "signs" = some none)
    (m_Bath___init__ : PySem.W.findIn K (.ref C_Bath) "__init__" = some (some (.ref f_Bath___init__)))
    (i_Bath___init__ : PySem.W.isFn K (.ref f_Bath___init__) = true)
    (l_Bath___init__ : K.lookup f_Bath___init__ = some ⟨oc_Bath___init__, od_Bath___init__, .func (PySem.W.fnOf "__init__" "Bath.__init__" (defArgs s_Bath___init__) (defBody s_Bath___init__) (defScope s_Bath___init__) .none kV_Bath___init__ dc_Bath___init__ pm_Bath___init__ an_Bath___init__ cd_Bath___init__ ct_Bath___init__), sl_Bath___init__⟩)
    (c_Bath___init__ : PySem.W.codeIn K cd_Bath___init__ "Bath.__init__" = true)
    (k_Bath___init__ : PySem.W.keepIn K (.ref f_Bath___init__) = true)
    (m_Bath___len__ : PySem.W.findIn K (.ref C_Bath) "__len__" = some (some (.ref f_Bath___len__)))
    (i_Bath___len__ : PySem.W.isFn K (.ref f_Bath___len__) = true)
    (l_Bath___len__ : K.lookup f_Bath___len__ = some ⟨oc_Bath___len__, od_Bath___len__, .func (PySem.W.fnOf "__len__" "Bath.__len__" (defArgs s_Bath___len__) (defBody s_Bath___len__) (defScope s_Bath___len__) .none kV_Bath___len__ dc_Bath___len__ pm_Bath___len__ an_Bath___len__ cd_Bath___len__ ct_Bath___len__), sl_Bath___len__⟩)
    (c_Bath___len__ : PySem.W.codeIn K cd_Bath___len__ "Bath.__len__" = true)
    (k_Bath___len__ : PySem.W.keepIn K (.ref f_Bath___len__) = true)
    (m_Bath___eq__ : PySem.W.findIn K (.ref C_Bath) "__eq__" = some (some (.ref f_Bath___eq__)))
    (i_Bath___eq__ : PySem.W.isFn K (.ref f_Bath___eq__) = true)
    (l_Bath___eq__ : K.lookup f_Bath___eq__ = some ⟨oc_Bath___eq__, od_Bath___eq__, .func (PySem.W.fnOf "__eq__" "Bath.__eq__" (defArgs s_Bath___eq__) (defBody s_Bath___eq__) (defScope s_Bath___eq__) .none kV_Bath___eq__ dc_Bath___eq__ pm_Bath___eq__ an_Bath___eq__ cd_Bath___eq__ ct_Bath___eq__), sl_Bath___eq__⟩)
    (c_Bath___eq__ : PySem.W.codeIn K cd_Bath___eq__ "Bath.__eq__" = true)
    (k_Bath___eq__ : PySem.W.keepIn K (.ref f_Bath___eq__) = true)
    (pa_Bath_width : PySem.W.findIn K (.ref C_Bath) "width" = some (some (.ref p_Bath_width)))
    (pgt_Bath_width : PySem.W.specialIn K (.ref p_Bath_width) "__get__" = some (some (.builtin "property.__get__")))
    (pt_Bath_width : PySem.W.takesIn K (.ref p_Bath_width) = some true)
    (pr_Bath_width : PySem.W.recIn K p_Bath_width "property" = some (.ref f_Bath_width :: r_Bath_width))
    (l_Bath_width : K.lookup f_Bath_width = some ⟨oc_Bath_width, od_Bath_width, .func (PySem.W.fnOf "width" "Bath.width" (defArgs s_Bath_width) (defBody s_Bath_width) (defScope s_Bath_width) .none kV_Bath_width dc_Bath_width pm_Bath_width an_Bath_width cd_Bath_width ct_Bath_width), sl_Bath_width⟩)
    (c_Bath_width : PySem.W.codeIn K cd_Bath_width "Bath.width" = true)
    (k_Bath_width : PySem.W.keepIn K (.ref f_Bath_width) = true)
    (pa_Bath_height : PySem.W.findIn K (.ref C_Bath) "height" = some (some (.ref p_Bath_height)))
    (pgt_Bath_height : PySem.W.specialIn K (.ref p_Bath_height) "__get__" = some (some (.builtin "property.__get__")))
    (pt_Bath_height : PySem.W.takesIn K (.ref p_Bath_height) = some true)
    (pr_Bath_height : PySem.W.recIn K p_Bath_height "property" = some (.ref f_Bath_height :: r_Bath_height))
    (l_Bath_height : K.lookup f_Bath_height = some ⟨oc_Bath_height, od_Bath_height, .func (PySem.W.fnOf "height" "Bath.height" (defArgs s_Bath_height) (defBody s_Bath_height) (defScope s_Bath_height) .none kV_Bath_height dc_Bath_height pm_Bath_height an_Bath_height cd_Bath_height ct_Bath_height), sl_Bath_height⟩)
    (c_Bath_height : PySem.W.codeIn K cd_Bath_height "Bath.height" = true)
    (k_Bath_height : PySem.W.keepIn K (.ref f_Bath_height) = true)
    (pa_Bath_cells : PySem.W.findIn K (.ref C_Bath) "cells" = some (some (.ref p_Bath_cells)))
    (pgt_Bath_cells : PySem.W.specialIn K (.ref p_Bath_cells) "__get__" = some (some (.builtin "property.__get__")))
    (pt_Bath_cells : PySem.W.takesIn K (.ref p_Bath_cells) = some true)
    (pr_Bath_cells : PySem.W.recIn K p_Bath_cells "property" = some (.ref f_Bath_cells :: r_Bath_cells))
    (l_Bath_cells : K.lookup f_Bath_cells = some ⟨oc_Bath_cells, od_Bath_cells, .func (PySem.W.fnOf "cells" "Bath.cells" (defArgs s_Bath_cells) (defBody s_Bath_cells) (defScope s_Bath_cells) .none kV_Bath_cells dc_Bath_cells pm_Bath_cells an_Bath_cells cd_Bath_cells ct_Bath_cells), sl_Bath_cells⟩)
    (c_Bath_cells : PySem.W.codeIn K cd_Bath_cells "Bath.cells" = true)
    (k_Bath_cells : PySem.W.keepIn K (.ref f_Bath_cells) = true)
    (ic_a : PySem.W.findIn K (.ref C_Bath) "__class__" = some (some (.builtin "object.__class__")))
    (ic_n : PySem.W.specialIn K (.builtin "object.__class__") "__get__" = some (some (.builtin "getset_descriptor.__get__")))
    (ic_t : PySem.W.takesIn K (.builtin "object.__class__") = some true)
    (ic_m : PySem.W.mroIn K C_Bath (.type "object") = some true)
    (xB : K.lookup C_Bath = some (excClassObj nm q C_Bath N bs [.type "object"] hdct sn sub ab col dd k0 k1 k2 k3 k5 newId))
    (nsk : PySem.W.nsOkIn K N = true)
    (nse : PySem.W.nsIn K N "__eq__" = some (some (.ref f_Bath___eq__)))
    (nsn : PySem.W.nsIn K N "__ne__" = some none)
    (thI : PySem.W.nsIn K PySem.cStatics "thirdparty.any" = some none)
    (xI_x0 : K.lookup C_InvalidBath = some (excClassObj nm2_x0 q2_x0 C_InvalidBath N2_x0 bs2_x0 bm2_x0 true sn2_x0 sub2_x0 ab2_x0 col2_x0 dd2_x0 h0_x0 h1_x0 h2_x0 h3_x0 h5_x0 "ValueError.__new__"))
    (rI_x0 : HandSPX.refsVE bm2_x0 = true)
    (saI_x0 : PySem.W.findIn K (.ref C_InvalidBath) "__setattr__" = some (some (.builtin "object.__setattr__")))
    (naI_x0 : PySem.W.findIn K (.ref C_InvalidBath) (Str.ofString "part") = some none)
    (iI_x0 : PySem.W.findIn K (.ref C_InvalidBath) "__init__" = some (some (.ref fI_x0)))
    (tI_x0 : PySem.W.typeIn K (.ref fI_x0) = some (.type "function"))
    (kI_x0 : PySem.W.keepIn K (.ref C_InvalidBath) = true)
    (eI_x0 : PySem.W.subIn K (.ref C_InvalidBath) (.type "BaseException") = some true)
    (vI_x0 : PySem.W.subIn K (.ref C_InvalidBath) (.type "ValueError") = some true)
    (tyI_x0 : PySem.W.typeIn K (.ref C_InvalidBath) = some (.type "type"))
    (hI_x0 : PySem.W.hasDictIn K C_InvalidBath = true)
    (sI_x0 : PySem.W.ks_superIn K C_InvalidBath C_InvalidBath "__init__" = some (some (.builtin "ValueError.__init__")))
    (oI_x0 : PySem.W.mroIn K C_InvalidBath (.ref C_InvalidBath) = some true)
    (exI_x0 : PySem.W.excInitIn K C_InvalidBath [.type "ValueError", .type "Exception", .type "BaseException", .type "object"] "ValueError.__new__" = true)
    (lI_x0 : K.lookup fI_x0 = some ⟨ocI_x0, odI_x0, .func (PySem.W.fnX "__init__" "InvalidBath.__init__" (defArgs (inClass (top 2) 0)) (defBody (inClass (top 2) 0)) (defScope (inClass (top 2) 0)) [("__class__", ccI_x0)] .none .none dcI_x0 pmI_x0 anI_x0 (.ref cdaI_x0) ctI_x0), slI_x0⟩)
    (cI_x0 : PySem.W.codeIn K (.ref cdaI_x0) "InvalidBath.__init__" = true)
    (lcI_x0 : K.lookup cdaI_x0 = some ⟨cclI_x0, cddI_x0, .fields vsI_x0, ccsI_x0⟩)
    (vsI2_x0 : vsI_x0[2]? = some (.str fileI_x0 tfI_x0))
    (flI_x0 : ((PySem.Challenge.pw_rakedpapers_k53_whole_rakes_counted.main.file : Str) == fileI_x0) = true)
    (lccI_x0 : K.lookup ccI_x0 = some ⟨clI_x0, cldI_x0, .cell (some (.ref C_InvalidBath)), cslI_x0⟩)
    : LamX.LawAtS l w K (L2.CX l.prog w) 10 63 "_law_script" mg fa h := by
  have e := hfa.symm.trans (PySem.W.mg_of X G a_law)
  cases e
  let Z : Zs := { BathError := C_BathError, InvalidBath := C_InvalidBath, InvalidRecipe := C_InvalidRecipe, UnknownCell := C_UnknownCell, InvalidSign := C_InvalidSign, InvalidDeed := C_InvalidDeed, InvalidNumber := C_InvalidNumber, Bath := C_Bath }
  let q : Str := (envOfC "law" (defScope s_law) 0 0 (.ref cL)).qual ++ "<lambda>"
  refine ⟨PySem.W.fnOf "law" "law" (defArgs s_law) (defBody s_law) (defScope s_law) .none kV_law dc_law pm_law an_law (.ref cL) ct_law, [], spLaw K [], fun p hp => (by cases hp), fun p hp => (by cases hp), fun p hp => (by cases hp), fun s v => .of_eq rfl, fun H a ns h1 _ h3 h4 => ⟨a, ns, rfl, h4, h1, h3, fun _ => rfl⟩, fun base KB GB TB => ?_⟩
  have cls : Cls K C_Bath := ⟨pg, hd, po, sa⟩
  have mkB : ∀ Γ : Ga, Γ.mg = mg → Γ.K = K → Fx Γ Z := fun Γ e1 e2 => by
    exact { b_int := (by rw [e1]; exact PySem.W.mg_none_of X G z_int), b_bool := (by rw [e1]; exact PySem.W.mg_none_of X G z_bool), b_str := (by rw [e1]; exact PySem.W.mg_none_of X G z_str), b_tuple := (by rw [e1]; exact PySem.W.mg_none_of X G z_tuple), b_list := (by rw [e1]; exact PySem.W.mg_none_of X G z_list), b_len := (by rw [e1]; exact PySem.W.mg_none_of X G z_len), b_all := (by rw [e1]; exact PySem.W.mg_none_of X G z_all), b_range := (by rw [e1]; exact PySem.W.mg_none_of X G z_range), b_isinstance := (by rw [e1]; exact PySem.W.mg_none_of X G z_isinstance), b_enumerate := (by rw [e1]; exact PySem.W.mg_none_of X G z_enumerate), b_zip := (by rw [e1]; exact PySem.W.mg_none_of X G z_zip), b_divmod := (by rw [e1]; exact PySem.W.mg_none_of X G z_divmod), b_ValueError := (by rw [e1]; exact PySem.W.mg_none_of X G z_ValueError), g_LETTERS := (by rw [e1]; exact ⟨.str (S [97, 98, 99, 100, 101, 102, 103, 104, 105, 106, 107, 108, 109, 110, 111, 112, 113, 114, 115, 116, 117, 118, 119, 120, 121, 122]), _, PySem.W.mg_of X G g_LETTERS, ⟨_, rfl⟩, fun _ _ _ => .str _⟩), g_NOTHING := (by rw [e1]; exact ⟨.str (S [46]), _, PySem.W.mg_of X G g_NOTHING, ⟨_, rfl⟩, fun _ _ _ => .str _⟩), g_MOST_SIDE := (by rw [e1]; exact ⟨.int 5, _, PySem.W.mg_of X G g_MOST_SIDE, ⟨_, rfl⟩, fun _ _ _ => .int _⟩), g_MOST_CELLS := (by rw [e1]; exact ⟨.int 12, _, PySem.W.mg_of X G g_MOST_CELLS, ⟨_, rfl⟩, fun _ _ _ => .int _⟩), g_MOST_STRIDE := (by rw [e1]; exact ⟨.int 9, _, PySem.W.mg_of X G g_MOST_STRIDE, ⟨_, rfl⟩, fun _ _ _ => .int _⟩), g_MOST_DEEDS := (by rw [e1]; exact ⟨.int 12, _, PySem.W.mg_of X G g_MOST_DEEDS, ⟨_, rfl⟩, fun _ _ _ => .int _⟩), g_MOST_TIMES := (by rw [e1]; exact ⟨.int 1000000000000000000, _, PySem.W.mg_of X G g_MOST_TIMES, ⟨_, rfl⟩, fun _ _ _ => .int _⟩), g_MOST_SEEN := (by rw [e1]; exact ⟨.int 1000000000000000, _, PySem.W.mg_of X G g_MOST_SEEN, ⟨_, rfl⟩, fun _ _ _ => .int _⟩), c_BathError := (by rw [e1]; exact ⟨.ref C_BathError, _, PySem.W.mg_of X G ac_BathError, rfl, fun _ _ _ => .ref _⟩), c_InvalidBath := (by rw [e1]; exact ⟨.ref C_InvalidBath, _, PySem.W.mg_of X G ac_InvalidBath, rfl, fun _ _ _ => .ref _⟩), c_InvalidRecipe := (by rw [e1]; exact ⟨.ref C_InvalidRecipe, _, PySem.W.mg_of X G ac_InvalidRecipe, rfl, fun _ _ _ => .ref _⟩), c_UnknownCell := (by rw [e1]; exact ⟨.ref C_UnknownCell, _, PySem.W.mg_of X G ac_UnknownCell, rfl, fun _ _ _ => .ref _⟩), c_InvalidSign := (by rw [e1]; exact ⟨.ref C_InvalidSign, _, PySem.W.mg_of X G ac_InvalidSign, rfl, fun _ _ _ => .ref _⟩), c_InvalidDeed := (by rw [e1]; exact ⟨.ref C_InvalidDeed, _, PySem.W.mg_of X G ac_InvalidDeed, rfl, fun _ _ _ => .ref _⟩), c_InvalidNumber := (by rw [e1]; exact ⟨.ref C_InvalidNumber, _, PySem.W.mg_of X G ac_InvalidNumber, rfl, fun _ _ _ => .ref _⟩), c_Bath := (by rw [e1]; exact ⟨.ref C_Bath, _, PySem.W.mg_of X G ac_Bath, rfl, fun _ _ _ => .ref _⟩), cls_Bath := (by rw [e2]; exact cls), na_Bath_column_count := (by rw [e2]; exact na_column_count), na_Bath_row_count := (by rw [e2]; exact na_row_count), na_Bath_signs := (by rw [e2]; exact na_signs), ic_Bath := (by rw [e2]; exact ⟨cls, ic_a, ic_n, ic_t, ic_m⟩) }
  let Γ : Ga := gaLaw0 l.prog w K mg base
  have B : Fx Γ Z := mkB Γ rfl rfl
  have sup_x0 : SupTxt Γ.P Γ.K Γ.mg C_InvalidBath fI_x0 "InvalidBath" "part" "InvalidBath.__init__" (fsOf (inClass (top 2) 0)) (fpOf (inClass (top 2) 0)) (defScope (inClass (top 2) 0)) := by
    refine { gC := PySem.W.mg_of X G ac_InvalidBath, cls := ⟨_, _, _, _, _, _, _, _, _, _, _, _, _, _, _, xI_x0, rI_x0⟩, sa := saI_x0, noN := naI_x0, iC := iI_x0, tC := tI_x0, kC := kI_x0, exC := eI_x0, veC := vI_x0, tyC := tyI_x0, hdC := hI_x0, ini := sI_x0, own := oI_x0, thr := thI, sup := PySem.W.mg_none_of X G z_super, exi := ⟨_, PySem.F.excBase_ValueError, exI_x0⟩, top := ?_, fn := ⟨_, _, _, _, _, _, _, _, _, _, _, _, _, _, _, _, _, _, _, _, _, _, _, _, _, _, _, _, _, lI_x0, cI_x0, lcI_x0, vsI2_x0, ?_, lccI_x0, rfl, ?_⟩, kind := rfl, co := rfl, gen := rfl, nocell := by decide +kernel, ns := rfl, na := rfl, nsup := rfl, ncls := rfl, nas := by decide, nad := by decide }
    · rw [show Γ.P = PySem.Challenge.pw_rakedpapers_k53_whole_rakes_counted from hl]; decide +kernel
    · rw [show Γ.P = PySem.Challenge.pw_rakedpapers_k53_whole_rakes_counted from hl]; exact flI_x0
    · exact fun s u v => .of_eq rfl
  have X_InvalidBath : ExcOk1 Γ 1 "InvalidBath" Z.InvalidBath "part" := excOk1_of2 sup_x0 (by decide) (by decide)
  have Fn_is_number := fun_mk (st := s_is_number) l_is_number c_is_number k_is_number
  have bi_is_number := Fn_is_number.binds (ps := ["value", "least", "most"]) fun _ _ _ _ _ _ us hl => match us, hl with | [_, _, _], _ => rfl
  have F_is_number := ok_is_number B Fn_is_number (PySem.W.mg_of X G a_is_number) bi_is_number
  have Fn_wrong_side := fun_mk (st := s_wrong_side) l_wrong_side c_wrong_side k_wrong_side
  have bi_wrong_side := Fn_wrong_side.binds (ps := ["width", "height"]) fun _ _ _ _ _ _ us hl => match us, hl with | [_, _], _ => rfl
  have F_wrong_side := ok_wrong_side B F_is_number Fn_wrong_side (PySem.W.mg_of X G a_wrong_side) bi_wrong_side
  have Fn_is_letter := fun_mk (st := s_is_letter) l_is_letter c_is_letter k_is_letter
  have bi_is_letter := Fn_is_letter.binds (ps := ["value"]) fun _ _ _ _ _ _ us hl => match us, hl with | [_], _ => rfl
  have F_is_letter := ok_is_letter B Fn_is_letter (PySem.W.mg_of X G a_is_letter) bi_is_letter
  have Fn_is_sign := fun_mk (st := s_is_sign) l_is_sign c_is_sign k_is_sign
  have bi_is_sign := Fn_is_sign.binds (ps := ["value"]) fun _ _ _ _ _ _ us hl => match us, hl with | [_], _ => rfl
  have F_is_sign := ok_is_sign B F_is_letter Fn_is_sign (PySem.W.mg_of X G a_is_sign) bi_is_sign
  have Fn_is_sign_text := fun_mk (st := s_is_sign_text) l_is_sign_text c_is_sign_text k_is_sign_text
  have bi_is_sign_text := Fn_is_sign_text.binds (ps := ["value", "length"]) fun _ _ _ _ _ _ us hl => match us, hl with | [_, _], _ => rfl
  have F_is_sign_text := ok_is_sign_text B F_is_sign Fn_is_sign_text (PySem.W.mg_of X G a_is_sign_text) bi_is_sign_text
  have Fn_Bath___init__ := fun_mk (st := s_Bath___init__) l_Bath___init__ c_Bath___init__ k_Bath___init__
  have bi_Bath___init__ := Fn_Bath___init__.binds (ps := ["self", "width", "height", "cells"]) fun _ _ _ _ _ _ us hl => match us, hl with | [_, _, _, _], _ => rfl
  have F_Bath___init__ := ok_Bath_make B F_wrong_side F_is_sign_text X_InvalidBath Fn_Bath___init__ (PySem.W.mg_of X G ac_Bath) ⟨mk, m_Bath___init__, i_Bath___init__, kc⟩ bi_Bath___init__
  have Fn__law_taken := fun_mk (st := s__law_taken) l__law_taken c__law_taken k__law_taken
  have bi__law_taken := Fn__law_taken.binds (ps := ["_law_row", "_law_many"]) fun _ _ _ _ _ _ us hl => match us, hl with | [_, _], _ => rfl
  have F__law_taken : DefOk Γ 1 "_law_taken" 2 (S__law_taken Z) := ok__law_taken B.b_int B.b_len Fn__law_taken (PySem.W.mg_of X G a__law_taken) bi__law_taken
  have Fn__law_bath := fun_mk (st := s__law_bath) l__law_bath c__law_bath k__law_bath
  have bi__law_bath := Fn__law_bath.binds (ps := ["_law_row", "_law_most"]) fun _ _ _ _ _ _ us hl => match us, hl with | [_, _], _ => rfl
  have F__law_bath := ok__law_bath B F__law_taken F_Bath___init__ Fn__law_bath (PySem.W.mg_of X G a__law_bath) bi__law_bath
  have Fn_are_strides := fun_mk (st := s_are_strides) l_are_strides c_are_strides k_are_strides
  have bi_are_strides := Fn_are_strides.binds (ps := ["value", "count"]) fun _ _ _ _ _ _ us hl => match us, hl with | [_, _], _ => rfl
  have F_are_strides := ok_are_strides B F_is_number Fn_are_strides (PySem.W.mg_of X G a_are_strides) bi_are_strides
  have Fn_is_deed := fun_mk (st := s_is_deed) l_is_deed c_is_deed k_is_deed
  have bi_is_deed := Fn_is_deed.binds (ps := ["width", "height", "deed"]) fun _ _ _ _ _ _ us hl => match us, hl with | [_, _, _], _ => rfl
  have F_is_deed := ok_is_deed B F_are_strides Fn_is_deed (PySem.W.mg_of X G a_is_deed) bi_is_deed
  have Fn_check_recipe := fun_mk (st := s_check_recipe) l_check_recipe c_check_recipe k_check_recipe
  have bi_check_recipe := Fn_check_recipe.binds (ps := ["width", "height", "recipe"]) fun _ _ _ _ _ _ us hl => match us, hl with | [_, _, _], _ => rfl
  have F_check_recipe := ok_check_recipe B F_is_deed Fn_check_recipe (PySem.W.mg_of X G a_check_recipe) bi_check_recipe
  have Fn_check_number := fun_mk (st := s_check_number) l_check_number c_check_number k_check_number
  have bi_check_number := Fn_check_number.binds (ps := ["number", "most"]) fun _ _ _ _ _ _ us hl => match us, hl with | [_, _], _ => rfl
  have F_check_number := ok_check_number B F_is_number Fn_check_number (PySem.W.mg_of X G a_check_number) bi_check_number
  have Fn_Bath_cells := fun_mk (st := s_Bath_cells) l_Bath_cells c_Bath_cells k_Bath_cells
  have bi_Bath_cells := Fn_Bath_cells.binds (ps := ["self"]) fun _ _ _ _ _ _ us hl => match us, hl with | [_], _ => rfl
  have F_Bath_cells := ok_Bath_cells B Fn_Bath_cells ⟨pa_Bath_cells, pgt_Bath_cells, pt_Bath_cells, _, pr_Bath_cells⟩ bi_Bath_cells
  have Fn_raked_from := fun_mk (st := s_raked_from) l_raked_from c_raked_from k_raked_from
  have bi_raked_from := Fn_raked_from.binds (ps := ["width", "height", "strides"]) fun _ _ _ _ _ _ us hl => match us, hl with | [_, _, _], _ => rfl
  have F_raked_from := ok_raked_from B Fn_raked_from (PySem.W.mg_of X G a_raked_from) bi_raked_from
  have Fn_moved_from := fun_mk (st := s_moved_from) l_moved_from c_moved_from k_moved_from
  have bi_moved_from := Fn_moved_from.binds (ps := ["width", "height", "deed"]) fun _ _ _ _ _ _ us hl => match us, hl with | [_, _, _], _ => rfl
  have F_moved_from := ok_moved_from B F_raked_from Fn_moved_from (PySem.W.mg_of X G a_moved_from) bi_moved_from
  have Fn_things_after := fun_mk (st := s_things_after) l_things_after c_things_after k_things_after
  have bi_things_after := Fn_things_after.binds (ps := ["width", "height", "things", "deed", "new"]) fun _ _ _ _ _ _ us hl => match us, hl with | [_, _, _, _, _], _ => rfl
  have F_things_after := ok_things_after B F_moved_from Fn_things_after (PySem.W.mg_of X G a_things_after) bi_things_after
  have Fn_things_done := fun_mk (st := s_things_done) l_things_done c_things_done k_things_done
  have bi_things_done := Fn_things_done.binds (ps := ["width", "height", "things", "recipe", "news"]) fun _ _ _ _ _ _ us hl => match us, hl with | [_, _, _, _, _], _ => rfl
  have F_things_done := ok_things_done B F_things_after Fn_things_done (PySem.W.mg_of X G a_things_done) bi_things_done
  have Fn_Bath_width := fun_mk (st := s_Bath_width) l_Bath_width c_Bath_width k_Bath_width
  have bi_Bath_width := Fn_Bath_width.binds (ps := ["self"]) fun _ _ _ _ _ _ us hl => match us, hl with | [_], _ => rfl
  have F_Bath_width := ok_Bath_width B Fn_Bath_width ⟨pa_Bath_width, pgt_Bath_width, pt_Bath_width, _, pr_Bath_width⟩ bi_Bath_width
  have Fn_Bath_height := fun_mk (st := s_Bath_height) l_Bath_height c_Bath_height k_Bath_height
  have bi_Bath_height := Fn_Bath_height.binds (ps := ["self"]) fun _ _ _ _ _ _ us hl => match us, hl with | [_], _ => rfl
  have F_Bath_height := ok_Bath_height B Fn_Bath_height ⟨pa_Bath_height, pgt_Bath_height, pt_Bath_height, _, pr_Bath_height⟩ bi_Bath_height
  have Fn_new_sign := fun_mk (st := s_new_sign) l_new_sign c_new_sign k_new_sign
  have bi_new_sign := Fn_new_sign.binds (ps := ["deed"]) fun _ _ _ _ _ _ us hl => match us, hl with | [_], _ => rfl
  have F_new_sign := ok_new_sign B Fn_new_sign (PySem.W.mg_of X G a_new_sign) bi_new_sign
  have Fn_new_signs := fun_mk (st := s_new_signs) l_new_signs c_new_signs k_new_signs
  have bi_new_signs := Fn_new_signs.binds (ps := ["recipe"]) fun _ _ _ _ _ _ us hl => match us, hl with | [_], _ => rfl
  have F_new_signs := ok_new_signs B F_new_sign Fn_new_signs (PySem.W.mg_of X G a_new_signs) bi_new_signs
  have Fn_done := fun_mk (st := s_done) l_done c_done k_done
  have bi_done := Fn_done.binds (ps := ["bath", "recipe"]) fun _ _ _ _ _ _ us hl => match us, hl with | [_, _], _ => rfl
  have F_done := ok_done B F_check_recipe F_things_done F_new_signs F_Bath___init__ F_Bath_height F_Bath_width F_Bath_cells Fn_done (PySem.W.mg_of X G a_done) bi_done
  have Fn_texts_and_begin := fun_mk (st := s_texts_and_begin) l_texts_and_begin c_texts_and_begin k_texts_and_begin
  have bi_texts_and_begin := Fn_texts_and_begin.binds (ps := ["bath", "recipe"]) fun _ _ _ _ _ _ us hl => match us, hl with | [_, _], _ => rfl
  have F_texts_and_begin := ok_texts_and_begin B F_done F_Bath___init__ F_Bath_height F_Bath_width F_Bath_cells Fn_texts_and_begin (PySem.W.mg_of X G a_texts_and_begin) bi_texts_and_begin
  have Fn_after_times := fun_mk (st := s_after_times) l_after_times c_after_times k_after_times
  have bi_after_times := Fn_after_times.binds (ps := ["bath", "recipe", "count"]) fun _ _ _ _ _ _ us hl => match us, hl with | [_, _, _], _ => rfl
  have F_after_times := ok_after_times B F_check_recipe F_check_number F_texts_and_begin F_Bath___init__ F_Bath_height F_Bath_width Fn_after_times (PySem.W.mg_of X G a_after_times) bi_after_times
  have Fn__law_strides := fun_mk (st := s__law_strides) l__law_strides c__law_strides k__law_strides
  have bi__law_strides := Fn__law_strides.binds (ps := ["_law_row", "_law_count"]) fun _ _ _ _ _ _ us hl => match us, hl with | [_, _], _ => rfl
  have F__law_strides := ok__law_strides B F__law_taken Fn__law_strides (PySem.W.mg_of X G a__law_strides) bi__law_strides
  have Fn_is_cell := fun_mk (st := s_is_cell) l_is_cell c_is_cell k_is_cell
  have bi_is_cell := Fn_is_cell.binds (ps := ["value", "cell_count"]) fun _ _ _ _ _ _ us hl => match us, hl with | [_, _], _ => rfl
  have F_is_cell := ok_is_cell B F_is_number Fn_is_cell (PySem.W.mg_of X G a_is_cell) bi_is_cell
  have Fn_check_cell := fun_mk (st := s_check_cell) l_check_cell c_check_cell k_check_cell
  have bi_check_cell := Fn_check_cell.binds (ps := ["cell", "cell_count"]) fun _ _ _ _ _ _ us hl => match us, hl with | [_, _], _ => rfl
  have F_check_cell := ok_check_cell B F_is_cell Fn_check_cell (PySem.W.mg_of X G a_check_cell) bi_check_cell
  have Fn_check_sign := fun_mk (st := s_check_sign) l_check_sign c_check_sign k_check_sign
  have bi_check_sign := Fn_check_sign.binds (ps := ["sign"]) fun _ _ _ _ _ _ us hl => match us, hl with | [_], _ => rfl
  have F_check_sign := ok_check_sign B F_is_sign Fn_check_sign (PySem.W.mg_of X G a_check_sign) bi_check_sign
  have Fn_Bath___len__ := fun_mk (st := s_Bath___len__) l_Bath___len__ c_Bath___len__ k_Bath___len__
  have bi_Bath___len__ := Fn_Bath___len__.binds (ps := ["self"]) fun _ _ _ _ _ _ us hl => match us, hl with | [_], _ => rfl
  have F_Bath___len__ := ok_Bath_len B Fn_Bath___len__ m_Bath___len__ i_Bath___len__ bi_Bath___len__
  have Fn_times_in_turn := fun_mk (st := s_times_in_turn) l_times_in_turn c_times_in_turn k_times_in_turn
  have bi_times_in_turn := Fn_times_in_turn.binds (ps := ["bath", "strides", "cell", "sign"]) fun _ _ _ _ _ _ us hl => match us, hl with | [_, _, _, _], _ => rfl
  have F_times_in_turn := ok_times_in_turn B F_are_strides F_check_cell F_Bath___len__ F_check_sign F_Bath_height F_Bath_width F_Bath_cells Fn_times_in_turn (PySem.W.mg_of X G a_times_in_turn) bi_times_in_turn
  have Fn_seen_times := fun_mk (st := s_seen_times) l_seen_times c_seen_times k_seen_times
  have bi_seen_times := Fn_seen_times.binds (ps := ["bath", "strides", "cell", "sign", "count"]) fun _ _ _ _ _ _ us hl => match us, hl with | [_, _, _, _, _], _ => rfl
  have F_seen_times := ok_seen_times B F_times_in_turn F_check_number F_Bath_width Fn_seen_times (PySem.W.mg_of X G a_seen_times) bi_seen_times
  have Fn_Bath___eq__ := fun_mk (st := s_Bath___eq__) l_Bath___eq__ c_Bath___eq__ k_Bath___eq__
  have bi_Bath___eq__ := Fn_Bath___eq__.binds (ps := ["self", "other"]) fun _ _ _ _ _ _ us hl => match us, hl with | [_, _], _ => rfl
  have F_Bath___eq__ := ok_Bath_eq B Fn_Bath___eq__ ⟨m_Bath___eq__, i_Bath___eq__, _, _, _, _, _, _, _, _, _, _, _, _, _, _, _, _, xB, nsk, nse, nsn⟩ bi_Bath___eq__
  have Fn_nth_seen := fun_mk (st := s_nth_seen) l_nth_seen c_nth_seen k_nth_seen
  have bi_nth_seen := Fn_nth_seen.binds (ps := ["bath", "strides", "cell", "sign", "number"]) fun _ _ _ _ _ _ us hl => match us, hl with | [_, _, _, _, _], _ => rfl
  have F_nth_seen := ok_nth_seen B F_times_in_turn F_check_number F_Bath_width Fn_nth_seen (PySem.W.mg_of X G a_nth_seen) bi_nth_seen
  have Fn__law_is_still := fun_mk (st := s__law_is_still) l__law_is_still c__law_is_still k__law_is_still
  have bi__law_is_still := Fn__law_is_still.binds (ps := ["_law_bath_here", "_law_cell", "_law_far"]) fun _ _ _ _ _ _ us hl => match us, hl with | [_, _, _], _ => rfl
  have F__law_is_still := ok__law_is_still B F_seen_times F_nth_seen F_Bath_height F_Bath_cells Fn__law_is_still (PySem.W.mg_of X G a__law_is_still) bi__law_is_still
  refine law_fn (Γ := Γ) (k := 9) (N := n_law) (st := s_law) (c := cL) (cs := []) (q := q) (U := U_law Z) (W := T_law Z) (rest := (defBody s_law).drop 1) l_law c_law sc_law rfl rfl rfl (by first | exact Or.inl rfl | exact Or.inr (Or.inl rfl)) (by first | exact Or.inl rfl | exact Or.inr rfl) (fun _ _ => rfl) (fun E hE => ?_) (rs_law Z) (law_ok Z)
  exact DSs.wk (ds_law (mkB _ rfl rfl) F__law_bath F__law_taken F_Bath___len__ F__law_strides F_after_times F_seen_times F_nth_seen F__law_is_still F_Bath_height F_Bath_cells F_Bath_width E)
end K53
end

section
open PySem PySem.W PyProof.Rows
set_option Elab.async false
set_option maxRecDepth 100000 in
set_option maxHeartbeats 0 in
theorem PySem.Challenge.cw_rakedpapers_k53_whole_rakes_counted_holds : PySem.Challenge.rw_rakedpapers_k53_whole_rakes_counted.Holds := by
  w_on; o_law; k_head; (case hw => w_witness2)
  k_fill
  refine LamX.walk_ofTs (l := PySem.Challenge.rw_rakedpapers_k53_whole_rakes_counted) (n := 63) (k := 10) (x := "_law_script") (CX := fun w => L2.CX PySem.Challenge.rw_rakedpapers_k53_whole_rakes_counted.prog w) rfl (by decide) rfl ⟨rfl, by decide, by decide⟩ (fun w h Y => PySem.W.kIn_of Y) ?F ?C
  case C =>
    intro w H s e s' z
    obtain ⟨_, _, _, _, _, _, _, _, _, _, _, _, z⟩ := z
    exact z
  case F =>
    intro w mg fa h Y KX G hmg
    refine' K53.all_mk rfl KX G hmg ?a_is_number ?l_is_number ?c_is_number ?k_is_number ?a_is_letter ?l_is_letter ?c_is_letter ?k_is_letter ?a_is_sign ?l_is_sign ?c_is_sign ?k_is_sign ?a_is_sign_text ?l_is_sign_text ?c_is_sign_text ?k_is_sign_text ?a_wrong_side ?l_wrong_side ?c_wrong_side ?k_wrong_side ?a_is_cell ?l_is_cell ?c_is_cell ?k_is_cell ?a_are_strides ?l_are_strides ?c_are_strides ?k_are_strides ?a_is_deed ?l_is_deed ?c_is_deed ?k_is_deed ?a_check_recipe ?l_check_recipe ?c_check_recipe ?k_check_recipe ?a_check_cell ?l_check_cell ?c_check_cell ?k_check_cell ?a_check_sign ?l_check_sign ?c_check_sign ?k_check_sign ?a_check_number ?l_check_number ?c_check_number ?k_check_number ?a_raked_from ?l_raked_from ?c_raked_from ?k_raked_from ?a_moved_from ?l_moved_from ?c_moved_from ?k_moved_from ?a_things_after ?l_things_after ?c_things_after ?k_things_after ?a_new_sign ?l_new_sign ?c_new_sign ?k_new_sign ?a_new_signs ?l_new_signs ?c_new_signs ?k_new_signs ?a_things_done ?l_things_done ?c_things_done ?k_things_done ?a__law_taken ?l__law_taken ?c__law_taken ?k__law_taken ?a_done ?l_done ?c_done ?k_done ?a_times_in_turn ?l_times_in_turn ?c_times_in_turn ?k_times_in_turn ?a_seen_times ?l_seen_times ?c_seen_times ?k_seen_times ?a_nth_seen ?l_nth_seen ?c_nth_seen ?k_nth_seen ?a__law_bath ?l__law_bath ?c__law_bath ?k__law_bath ?a__law_strides ?l__law_strides ?c__law_strides ?k__law_strides ?a__law_is_still ?l__law_is_still ?c__law_is_still ?k__law_is_still ?a_texts_and_begin ?l_texts_and_begin ?c_texts_and_begin ?k_texts_and_begin ?a_after_times ?l_after_times ?c_after_times ?k_after_times ?a_law ?l_law ?c_law ?k_law ?ac_BathError ?ac_InvalidBath ?ac_InvalidRecipe ?ac_UnknownCell ?ac_InvalidSign ?ac_InvalidDeed ?ac_InvalidNumber ?ac_Bath ?z_int ?z_bool ?z_str ?z_tuple ?z_list ?z_len ?z_all ?z_range ?z_isinstance ?z_enumerate ?z_zip ?z_divmod ?z_super ?z_ValueError ?g_LETTERS ?g_NOTHING ?g_MOST_SIDE ?g_MOST_CELLS ?g_MOST_STRIDE ?g_MOST_DEEDS ?g_MOST_TIMES ?g_MOST_SEEN ?pg ?hd ?po ?sa ?mk ?kc ?na_column_count ?na_row_count ?na_signs ?m_Bath___init__ ?i_Bath___init__ ?l_Bath___init__ ?c_Bath___init__ ?k_Bath___init__ ?m_Bath___len__ ?i_Bath___len__ ?l_Bath___len__ ?c_Bath___len__ ?k_Bath___len__ ?m_Bath___eq__ ?i_Bath___eq__ ?l_Bath___eq__ ?c_Bath___eq__ ?k_Bath___eq__ ?pa_Bath_width ?pgt_Bath_width ?pt_Bath_width ?pr_Bath_width ?l_Bath_width ?c_Bath_width ?k_Bath_width ?pa_Bath_height ?pgt_Bath_height ?pt_Bath_height ?pr_Bath_height ?l_Bath_height ?c_Bath_height ?k_Bath_height ?pa_Bath_cells ?pgt_Bath_cells ?pt_Bath_cells ?pr_Bath_cells ?l_Bath_cells ?c_Bath_cells ?k_Bath_cells ?ic_a ?ic_n ?ic_t ?ic_m ?xB ?nsk ?nse ?nsn ?thI ?xI_x0 ?rI_x0 ?saI_x0 ?naI_x0 ?iI_x0 ?tI_x0 ?kI_x0 ?eI_x0 ?vI_x0 ?tyI_x0 ?hI_x0 ?sI_x0 ?oI_x0 ?exI_x0 ?lI_x0 ?cI_x0 ?lcI_x0 ?vsI2_x0 ?flI_x0 ?lccI_x0
    (case a_is_number => k_is)
    (case l_is_number => k_is)
    (case c_is_number => k_is)
    (case k_is_number => k_is)
    (case a_is_letter => k_is)
    (case l_is_letter => k_is)
    (case c_is_letter => k_is)
    (case k_is_letter => k_is)
    (case a_is_sign => k_is)
    (case l_is_sign => k_is)
    (case c_is_sign => k_is)
    (case k_is_sign => k_is)
    (case a_is_sign_text => k_is)
    (case l_is_sign_text => k_is)
    (case c_is_sign_text => k_is)
    (case k_is_sign_text => k_is)
    (case a_wrong_side => k_is)
    (case l_wrong_side => k_is)
    (case c_wrong_side => k_is)
    (case k_wrong_side => k_is)
    (case a_is_cell => k_is)
    (case l_is_cell => k_is)
    (case c_is_cell => k_is)
    (case k_is_cell => k_is)
    (case a_are_strides => k_is)
    (case l_are_strides => k_is)
    (case c_are_strides => k_is)
    (case k_are_strides => k_is)
    (case a_is_deed => k_is)
    (case l_is_deed => k_is)
    (case c_is_deed => k_is)
    (case k_is_deed => k_is)
    (case a_check_recipe => k_is)
    (case l_check_recipe => k_is)
    (case c_check_recipe => k_is)
    (case k_check_recipe => k_is)
    (case a_check_cell => k_is)
    (case l_check_cell => k_is)
    (case c_check_cell => k_is)
    (case k_check_cell => k_is)
    (case a_check_sign => k_is)
    (case l_check_sign => k_is)
    (case c_check_sign => k_is)
    (case k_check_sign => k_is)
    (case a_check_number => k_is)
    (case l_check_number => k_is)
    (case c_check_number => k_is)
    (case k_check_number => k_is)
    (case a_raked_from => k_is)
    (case l_raked_from => k_is)
    (case c_raked_from => k_is)
    (case k_raked_from => k_is)
    (case a_moved_from => k_is)
    (case l_moved_from => k_is)
    (case c_moved_from => k_is)
    (case k_moved_from => k_is)
    (case a_things_after => k_is)
    (case l_things_after => k_is)
    (case c_things_after => k_is)
    (case k_things_after => k_is)
    (case a_new_sign => k_is)
    (case l_new_sign => k_is)
    (case c_new_sign => k_is)
    (case k_new_sign => k_is)
    (case a_new_signs => k_is)
    (case l_new_signs => k_is)
    (case c_new_signs => k_is)
    (case k_new_signs => k_is)
    (case a_things_done => k_is)
    (case l_things_done => k_is)
    (case c_things_done => k_is)
    (case k_things_done => k_is)
    (case a__law_taken => k_is)
    (case l__law_taken => k_is)
    (case c__law_taken => k_is)
    (case k__law_taken => k_is)
    (case a_done => k_is)
    (case l_done => k_is)
    (case c_done => k_is)
    (case k_done => k_is)
    (case a_times_in_turn => k_is)
    (case l_times_in_turn => k_is)
    (case c_times_in_turn => k_is)
    (case k_times_in_turn => k_is)
    (case a_seen_times => k_is)
    (case l_seen_times => k_is)
    (case c_seen_times => k_is)
    (case k_seen_times => k_is)
    (case a_nth_seen => k_is)
    (case l_nth_seen => k_is)
    (case c_nth_seen => k_is)
    (case k_nth_seen => k_is)
    (case a__law_bath => k_is)
    (case l__law_bath => k_is)
    (case c__law_bath => k_is)
    (case k__law_bath => k_is)
    (case a__law_strides => k_is)
    (case l__law_strides => k_is)
    (case c__law_strides => k_is)
    (case k__law_strides => k_is)
    (case a__law_is_still => k_is)
    (case l__law_is_still => k_is)
    (case c__law_is_still => k_is)
    (case k__law_is_still => k_is)
    (case a_texts_and_begin => k_is)
    (case l_texts_and_begin => k_is)
    (case c_texts_and_begin => k_is)
    (case k_texts_and_begin => k_is)
    (case a_after_times => k_is)
    (case l_after_times => k_is)
    (case c_after_times => k_is)
    (case k_after_times => k_is)
    (case a_law => k_is)
    (case l_law => k_is)
    (case c_law => k_is)
    (case k_law => k_is)
    (case ac_BathError => k_is)
    (case ac_InvalidBath => k_is)
    (case ac_InvalidRecipe => k_is)
    (case ac_UnknownCell => k_is)
    (case ac_InvalidSign => k_is)
    (case ac_InvalidDeed => k_is)
    (case ac_InvalidNumber => k_is)
    (case ac_Bath => k_is)
    (case z_int => k_is)
    (case z_bool => k_is)
    (case z_str => k_is)
    (case z_tuple => k_is)
    (case z_list => k_is)
    (case z_len => k_is)
    (case z_all => k_is)
    (case z_range => k_is)
    (case z_isinstance => k_is)
    (case z_enumerate => k_is)
    (case z_zip => k_is)
    (case z_divmod => k_is)
    (case z_super => k_is)
    (case z_ValueError => k_is)
    (case g_LETTERS => k_is)
    (case g_NOTHING => k_is)
    (case g_MOST_SIDE => k_is)
    (case g_MOST_CELLS => k_is)
    (case g_MOST_STRIDE => k_is)
    (case g_MOST_DEEDS => k_is)
    (case g_MOST_TIMES => k_is)
    (case g_MOST_SEEN => k_is)
    (case pg => k_is)
    (case hd => k_is)
    (case po => k_is)
    (case sa => k_is)
    (case mk => k_is)
    (case kc => k_is)
    (case na_column_count => k_is)
    (case na_row_count => k_is)
    (case na_signs => k_is)
    (case m_Bath___init__ => k_is)
    (case i_Bath___init__ => k_is)
    (case l_Bath___init__ => k_is)
    (case c_Bath___init__ => k_is)
    (case k_Bath___init__ => k_is)
    (case m_Bath___len__ => k_is)
    (case i_Bath___len__ => k_is)
    (case l_Bath___len__ => k_is)
    (case c_Bath___len__ => k_is)
    (case k_Bath___len__ => k_is)
    (case m_Bath___eq__ => k_is)
    (case i_Bath___eq__ => k_is)
    (case l_Bath___eq__ => k_is)
    (case c_Bath___eq__ => k_is)
    (case k_Bath___eq__ => k_is)
    (case pa_Bath_width => k_is)
    (case pgt_Bath_width => k_is)
    (case pt_Bath_width => k_is)
    (case pr_Bath_width => k_is)
    (case l_Bath_width => k_is)
    (case c_Bath_width => k_is)
    (case k_Bath_width => k_is)
    (case pa_Bath_height => k_is)
    (case pgt_Bath_height => k_is)
    (case pt_Bath_height => k_is)
    (case pr_Bath_height => k_is)
    (case l_Bath_height => k_is)
    (case c_Bath_height => k_is)
    (case k_Bath_height => k_is)
    (case pa_Bath_cells => k_is)
    (case pgt_Bath_cells => k_is)
    (case pt_Bath_cells => k_is)
    (case pr_Bath_cells => k_is)
    (case l_Bath_cells => k_is)
    (case c_Bath_cells => k_is)
    (case k_Bath_cells => k_is)
    (case ic_a => k_is)
    (case ic_n => k_is)
    (case ic_t => k_is)
    (case ic_m => k_is)
    (case xB => k_is)
    (case nsk => first | kernel_rfl | k_is)
    (case nse => first | kernel_rfl | k_is)
    (case nsn => first | kernel_rfl | k_is)
    (case thI => k_is)
    (case xI_x0 => k_is)
    (case rI_x0 => first | decide +kernel | k_is)
    (case saI_x0 => k_is)
    (case naI_x0 => k_is)
    (case iI_x0 => k_is)
    (case tI_x0 => k_is)
    (case kI_x0 => k_is)
    (case eI_x0 => k_is)
    (case vI_x0 => first | kernel_rfl | k_is)
    (case tyI_x0 => k_is)
    (case hI_x0 => k_is)
    (case sI_x0 => first | kernel_rfl | k_is)
    (case oI_x0 => k_is)
    (case exI_x0 => first | kernel_rfl | k_is)
    (case lI_x0 => k_is)
    (case cI_x0 => k_is)
    (case lcI_x0 => k_is)
    (case vsI2_x0 => rfl)
    (case flI_x0 => decide +kernel)
    (case lccI_x0 => k_is)
    all_goals exact PySem.Value.none
end
