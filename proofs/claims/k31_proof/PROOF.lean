import PyProof.Rows.All
import Wide.All
import OpenK.AllK
import Wide.FinOn
import HandS.ForMost
import HandS.ForExc
import HandS.Wide
import HandS.Zip
import HandS.Defaults
import HandS.TupAny
import HandS.Conv
import HandS.Style
import HandS.FStr
import HandS.Lambda
import HandS.EndTab
import HandS.ExcInit
import PyProof.Rows.NestShow
import HandS.Gcd
import HandS.SortKw
import HandS.TupMul
import HandS.IsInst
import KE.DataMinMax
import KE.GoesEnum
import HandS.Flt
import HandS.Star
import HandS.ExcField
import HandS.TryOnly
import HandS.TryMany
import KE.KExcIs
import HandS.ExcIs
import KE.SortData
import PyProof.EnumMake
import HandS.Iter
import HandS.Remove
import KE.KIndexOf
import HandS.DictComp
import HandS.ListItems
import HandS.SetKeys
import HandS.Deep
import HandS.StrMore
import PyProof.FactsAll.dict
import KE.KEqDict
import HandS.MakeKw
import KE.DataCmp
import HandS.MakeKwOnly
import KE.DataMinKey
import HandS.Comp
import HandS.Strs
import HandS.SetFor
import HandS.More
import PyProof.FactsAll.list_3
import KE.KSortTup
import HandS.List
import KE.DataEq
import HandS.Text
import HandS.OwnEq
import KE.RegKIsAll
import KE.LtData
import PySem.Challenge.RW_nonearer_k31_whole_queues
set_option Elab.async false
set_option maxHeartbeats 0
set_option linter.all false
set_option maxRecDepth 100000
set_option exponentiation.threshold 20000
/-! A second layer over HandS: data by value (D), mutable objects as tokens in a store (Mp), readings as predicate transformers over data. -/
namespace L3
open PySem L2
/-! ### data -/
inductive D where
  | non | bl (b : Bool) | int (i : Int) | str (x : Str) | ty (n : String) | tok (a : Addr)
  | tup (ds : List D) | lst (ds : List D)
  /-- an exception at a: its class's name, its dict at dx, its fields -/
  | exc (a : Addr) (x : Str) (dx : Addr) (ns : List Str) (ds : List D)
  /-- a tuple that is known to bear no dict -/
  | tpl (ds : List D)
  /-- a dict that never changes -/
  | dct (ks : List Key) (ds : List D)
mutual
inductive Rep (K : PySem.W.Frag) (H : Hp) : V → D → Prop
  | non : Rep K H .non .non
  | bl (b : Bool) : Rep K H (.bl b) (.bl b)
  | int (i : Int) : Rep K H (.int i) (.int i)
  | str (x : Str) : Rep K H (.str x) (.str x)
  | ty (n : String) : Rep K H (.ty n) (.ty n)
  | tok (a : Addr) : Rep K H (.ref a) (.tok a)
  | tup {a : Addr} {vs : List V} {ds : List D} : SqT K H a vs → RepL K H vs ds → Rep K H (.ref a) (.tup ds)
  | lst {a : Addr} {vs : List V} {ds : List D} : SqL K H a vs → RepL K H vs ds → Rep K H (.ref a) (.lst ds)
  | exc {a dx : Addr} {x : Str} {ns : List Str} {vs : List V} {ds : List D} : H dx = some (.xd (ns.zip vs)) → ns.length = vs.length → RepL K H vs ds → Rep K H (.ref a) (.exc a x dx ns ds)
  | tpl {a : Addr} {o : Obj} {vs : List V} {ds : List D} : H a = some (.frz o (.tup vs)) → o.dict = none → RepL K H vs ds → Rep K H (.ref a) (.tpl ds)
  | dct {a : Addr} {ks : List Key} {vs : List V} {ds : List D} : Rd H a (.dK (ks.zip vs)) → ks.length = vs.length → RepL K H vs ds → Rep K H (.ref a) (.dct ks ds)
inductive RepL (K : PySem.W.Frag) (H : Hp) : List V → List D → Prop
  | nil : RepL K H [] []
  | cons {v : V} {vs : List V} {d : D} {ds : List D} : Rep K H v d → RepL K H vs ds → RepL K H (v :: vs) (d :: ds)
end
theorem rd_mono {H H' : Hp} {a : Addr} {u : HO} (e : Same H H') (h : Rd H a u) : Rd H' a u := by
  rcases h with h | ⟨o, h⟩
  · exact .inl (e _ _ h)
  · exact .inr ⟨o, e _ _ h⟩
theorem sqt_mono {K : PySem.W.Frag} {H H' : Hp} {a : Addr} {xs : List V} (e : Same H H') (h : SqT K H a xs) : SqT K H' a xs := by
  rcases h with (h | ⟨o, h⟩) | h
  · exact .inl (.inl (e _ _ h))
  · exact .inl (.inr ⟨o, e _ _ h⟩)
  · exact .inr h
mutual
theorem Rep.mono {K : PySem.W.Frag} {H H' : Hp} (e : Same H H') : ∀ (d : D) (v : V), Rep K H v d → Rep K H' v d
  | .non, _, h => by cases h; exact .non
  | .bl b, _, h => by cases h; exact .bl b
  | .int i, _, h => by cases h; exact .int i
  | .str x, _, h => by cases h; exact .str x
  | .ty n, _, h => by cases h; exact .ty n
  | .tok a, _, h => by cases h; exact .tok a
  | .tup ds, _, h => by
    cases h with
    | tup hs ha => exact .tup (sqt_mono e hs) (RepL.mono e ds _ ha)
  | .lst ds, _, h => by
    cases h with
    | lst hs ha => exact .lst (e.seq hs) (RepL.mono e ds _ ha)
  | .exc a x dx ns ds, _, h => by
    cases h with
    | exc hx hl ha => exact .exc (e _ _ hx) hl (RepL.mono e ds _ ha)
  | .tpl ds, _, h => by
    cases h with
    | tpl hx hl ha => exact .tpl (e _ _ hx) hl (RepL.mono e ds _ ha)
  | .dct ks ds, _, h => by
    cases h with
    | dct hx hl ha => exact .dct (rd_mono e hx) hl (RepL.mono e ds _ ha)
theorem RepL.mono {K : PySem.W.Frag} {H H' : Hp} (e : Same H H') : ∀ (ds : List D) (vs : List V), RepL K H vs ds → RepL K H' vs ds
  | [], _, h => by cases h; exact .nil
  | d :: ds, _, h => by
    cases h with
    | cons h1 h2 => exact .cons (Rep.mono e d _ h1) (RepL.mono e ds _ h2)
end
theorem Rep.up {K : PySem.W.Frag} {H H' : Hp} {v : V} {d : D} (h : Rep K H v d) (e : Same H H') : Rep K H' v d := Rep.mono e d v h
theorem RepL.up {K : PySem.W.Frag} {H H' : Hp} {v : List V} {d : List D} (h : RepL K H v d) (e : Same H H') : RepL K H' v d := RepL.mono e d v h
theorem RepL.len {K : PySem.W.Frag} {H : Hp} : ∀ {vs : List V} {ds : List D}, RepL K H vs ds → vs.length = ds.length
  | _, _, .nil => rfl
  | _, _, .cons _ r => by rw [List.length_cons, List.length_cons, r.len]
theorem RepL.app {K : PySem.W.Frag} {H : Hp} : ∀ {vs ws : List V} {ds es : List D}, RepL K H vs ds → RepL K H ws es → RepL K H (vs ++ ws) (ds ++ es)
  | _, _, _, _, .nil, s => s
  | _, _, _, _, .cons r t, s => .cons r (RepL.app t s)
theorem RepL.get {K : PySem.W.Frag} {H : Hp} : ∀ {vs : List V} {ds : List D} {i : Nat} {d : D}, RepL K H vs ds → ds[i]? = some d → ∃ v, vs[i]? = some v ∧ Rep K H v d
  | _, _, i, d, .nil, e => by simp at e
  | _, _, 0, d, .cons r t, e => by
    obtain rfl : _ = d := Option.some.inj e
    exact ⟨_, rfl, r⟩
  | _, _, i + 1, d, .cons r t, e => t.get (i := i) e
theorem RepL.set {K : PySem.W.Frag} {H : Hp} {v : V} {d : D} (r : Rep K H v d) : ∀ {vs : List V} {ds : List D} (i : Nat), RepL K H vs ds → RepL K H (vs.set i v) (ds.set i d)
  | _, _, _, .nil => .nil
  | _, _, 0, .cons _ t => .cons r t
  | _, _, i + 1, .cons q t => .cons q (RepL.set r i t)
theorem RepL.take {K : PySem.W.Frag} {H : Hp} : ∀ {vs : List V} {ds : List D} (n : Nat), RepL K H vs ds → RepL K H (vs.take n) (ds.take n)
  | _, _, 0, _ => .nil
  | _, _, n + 1, .nil => .nil
  | _, _, n + 1, .cons r t => .cons r (RepL.take n t)
theorem RepL.drop {K : PySem.W.Frag} {H : Hp} : ∀ {vs : List V} {ds : List D} (n : Nat), RepL K H vs ds → RepL K H (vs.drop n) (ds.drop n)
  | _, _, 0, r => r
  | _, _, n + 1, .nil => .nil
  | _, _, n + 1, .cons _ t => RepL.drop n t
theorem RepL.ints {K : PySem.W.Frag} {H : Hp} : ∀ {vs : List V} {ns : List Int}, RepL K H vs (ns.map D.int) → vs = ns.map V.int
  | _, [], h => by cases h; rfl
  | _, n :: ns, h => by
    cases h with
    | cons r t =>
      cases r
      rw [List.map_cons, RepL.ints t]
theorem RepL.ofInts {K : PySem.W.Frag} {H : Hp} : ∀ (ns : List Int), RepL K H (ns.map V.int) (ns.map D.int)
  | [] => .nil
  | n :: ns => .cons (.int n) (RepL.ofInts ns)
/-! ### the store of what may change -/
/-- the class that a name of the module holds -/
def ClsAt (K : PySem.W.Frag) (x : Str) (C : Addr) : Prop := PySem.W.nsIn K mainGlobals x = some (some (.ref C))
inductive Cell where
  | aux | drw (a0 : Addr) | lst (ds : List D) | ins (x : Str) (fs : List (Str × D))
  /-- a dict, while a loop walks it with its object -/
  | dic (lk : Option (Obj × List (Key × V))) (kd : List (Key × D))
  /-- the table of the code objects that the def x makes: each bears the name q -/
  | tab (x q : Str)
  /-- a box of draws: three whole numbers -/
  | box
  /-- an exception that is a value: its class's name, its fields -/
  | err (x : Str) (fs : List (Str × D))
abbrev Mp := Addr → Option Cell
/-- what never changes: neither in the store nor hidden (Z) -/
def fz (Z H : Hp) (M : Mp) : Hp := fun a => match M a, Z a with
  | none, none => H a
  | _, _ => none
def setM (M : Mp) (a : Addr) (c : Cell) : Mp := fun b => if b = a then some c else M b
theorem setM_same {M : Mp} {a : Addr} {c : Cell} : setM M a c a = some c := if_pos rfl
theorem setM_ne {M : Mp} {a b : Addr} {c : Cell} (h : b ≠ a) : setM M a c b = M b := if_neg h
theorem fz_none {Z H : Hp} {M : Mp} {a : Addr} (h : M a = none) (z : Z a = none) : fz Z H M a = H a := by
  unfold fz
  rw [h, z]
theorem fz_some {Z H : Hp} {M : Mp} {a : Addr} {c : Cell} (h : M a = some c) : fz Z H M a = none := by
  unfold fz
  rw [h]
theorem fz_hid {Z H : Hp} {M : Mp} {a : Addr} {o : HO} (h : Z a = some o) : fz Z H M a = none := by
  unfold fz
  rw [h]
  split <;> first | rfl | contradiction
theorem fz_is {Z H : Hp} {M : Mp} {a : Addr} {o : HO} (h : fz Z H M a = some o) : M a = none ∧ Z a = none ∧ H a = some o := by
  cases q : M a with
  | some c =>
    rw [fz_some q] at h
    cases h
  | none =>
    cases q2 : Z a with
    | some u =>
      rw [fz_hid q2] at h
      cases h
    | none =>
      rw [fz_none q q2] at h
      exact ⟨rfl, rfl, h⟩
theorem fz_to {Z H : Hp} {M : Mp} {a : Addr} {o : HO} (h1 : M a = none) (h2 : Z a = none) (h : H a = some o) : fz Z H M a = some o := by
  rw [fz_none h1 h2]
  exact h
theorem fz_sub {Z H : Hp} {M : Mp} : Same (fz Z H M) H := fun _ _ e => (fz_is e).2.2
def RepF (K : PySem.W.Frag) (H : Hp) (fv : List (Str × V)) (fs : List (Str × D)) : Prop := fv.map (·.1) = fs.map (·.1) ∧ RepL K H (fv.map (·.2)) (fs.map (·.2))
/-- a dict's pairs -/
def RepK (K : PySem.W.Frag) (H : Hp) (kv : List (Key × V)) (kd : List (Key × D)) : Prop := kv.map (·.1) = kd.map (·.1) ∧ RepL K H (kv.map (·.2)) (kd.map (·.2))
def LkAt (lk : Option (Obj × List (Key × V))) (kv : List (Key × V)) (u : HO) : Prop := match lk with
  | none => u = .dK kv
  | some q => q.2 = kv ∧ u = .frz q.1 (.dK kv)
/-- the numbers of the draws -/
def DrawOk (H : Hp) (a a0 : Addr) : Prop := ∃ (cs : List Int) (s : Int), H a = some (.lst [.ref a0, .int s]) ∧ H a0 = some (.lst (cs.map V.int)) ∧ 0 ≤ s ∧ s < 4294967296 ∧ cs.length ≤ 100 ∧ ∀ c ∈ cs, 0 ≤ c
/-- the def x's table at a: what it tells are code objects (F: they never change) of the name q -/
def TabOk (K : PySem.W.Frag) (F H : Hp) (a : Addr) (x q : Str) : Prop := (∃ c, PySem.W.tabIn K x = some (c, a)) ∧ ∃ ps : Array Value, H a = some (.tbl ps) ∧ TriplesOk ps.toList ∧
  ∀ (pos : Pos) (cv : Value), codeAmong pos ps.toList = some cv → ∃ c, cv = .ref c ∧ F c = some (LamX.CodeO c q)
theorem TabOk.go {K : PySem.W.Frag} {F F' H H' : Hp} {a : Addr} {x q : Str} (t : TabOk K F H a x q) (e : Same F F') (ha : ∀ o, H a = some o → H' a = some o) : TabOk K F' H' a x q := by
  obtain ⟨h0, ps, h1, h2, h3⟩ := t
  refine ⟨h0, ps, ha _ h1, h2, fun pos cv hc => ?_⟩
  obtain ⟨c, e1, e2⟩ := h3 pos cv hc
  exact ⟨c, e1, e _ _ e2⟩
/-- an exception at a, made and not raised: its dict never changes -/
def ErrOk (K : PySem.W.Frag) (F H : Hp) (a : Addr) (x : Str) (fs : List (Str × D)) : Prop := ∃ (C dx : Addr) (fv : List (Str × V)), ClsAt K x C ∧ H a = some (exo a C (some dx)) ∧ F dx = some (exd dx fv) ∧ RepF K F fv fs
def BoxOk (H : Hp) (a : Addr) : Prop := ∃ c s t : Int, H a = some (.lst [.int c, .int s, .int t]) ∧ 0 ≤ c ∧ 0 ≤ s ∧ 0 ≤ t
def CellOk (K : PySem.W.Frag) (Z H : Hp) (M : Mp) (a : Addr) : Cell → Prop
  | .lst ds => ∃ vs, H a = some (.lst vs) ∧ RepL K (fz Z H M) vs ds
  | .drw a0 => M a0 = some .aux ∧ DrawOk H a a0
  | .aux => ∃ o, H a = some o
  | .ins x fs => ∃ C dx fv, ClsAt K x C ∧ H a = some (.ins C dx fv) ∧ RepF K (fz Z H M) fv fs
  | .dic lk kd => ∃ kv u, H a = some u ∧ LkAt lk kv u ∧ RepK K (fz Z H M) kv kd
  | .tab x q => TabOk K (fz Z H M) H a x q
  | .box => BoxOk H a
  | .err x fs => ErrOk K (fz Z H M) H a x fs
structure Sat (K : PySem.W.Frag) (Z : Hp) (H : Hp) (M : Mp) : Prop where
  cell : ∀ a c, M a = some c → CellOk K Z H M a c
  zed : ∀ a o, Z a = some o → H a = some o ∧ M a = none
theorem Sat.there {K : PySem.W.Frag} {Z : Hp} {H : Hp} {M : Mp} {a : Addr} {c : Cell} (S : Sat K Z H M) (h : M a = some c) : ∃ o, H a = some o := by
  have q := S.cell a c h
  cases c with
  | aux => exact q
  | drw a0 => obtain ⟨_, cs, s, e, _⟩ := q; exact ⟨_, e⟩
  | lst ds => obtain ⟨vs, e, _⟩ := q; exact ⟨_, e⟩
  | ins x fs => obtain ⟨C, dx, fv, _, e, _⟩ := q; exact ⟨_, e⟩
  | dic lk kd => obtain ⟨_, _, e, _⟩ := q; exact ⟨_, e⟩
  | tab x q0 => obtain ⟨_, ps, e, _⟩ := q; exact ⟨_, e⟩
  | box => obtain ⟨_, _, _, e, _⟩ := q; exact ⟨_, e⟩
  | err x fs => obtain ⟨_, _, _, _, e, _⟩ := q; exact ⟨_, e⟩
theorem Sat.free {K : PySem.W.Frag} {Z : Hp} {H : Hp} {M : Mp} {a : Addr} (S : Sat K Z H M) (h : H a = none) : M a = none := by
  cases q : M a with
  | none => rfl
  | some c =>
    obtain ⟨o, e⟩ := S.there q
    rw [h] at e
    cases e
theorem Sat.freeZ {K : PySem.W.Frag} {Z : Hp} {H : Hp} {M : Mp} {a : Addr} (S : Sat K Z H M) (h : H a = none) : Z a = none := by
  cases q : Z a with
  | none => rfl
  | some c =>
    have e := (S.zed a c q).1
    rw [h] at e
    cases e
theorem RepK.up {K : PySem.W.Frag} {H H' : Hp} {v : List (Key × V)} {d : List (Key × D)} (h : RepK K H v d) (e : Same H H') : RepK K H' v d := ⟨h.1, h.2.up e⟩
theorem RepF.up {K : PySem.W.Frag} {H H' : Hp} {v : List (Str × V)} {d : List (Str × D)} (h : RepF K H v d) (e : Same H H') : RepF K H' v d := ⟨h.1, h.2.up e⟩
/-- a step: the heap and the store behind it -/
structure Go (K : PySem.W.Frag) (Z : Hp) (H : Hp) (M : Mp) (H' : Hp) (M' : Mp) : Prop where
  sat : Sat K Z H' M'
  ex : Same (fz Z H M) (fz Z H' M')
theorem Go.refl {K : PySem.W.Frag} {Z : Hp} {H : Hp} {M : Mp} (S : Sat K Z H M) : Go K Z H M H M := ⟨S, Same.refl _⟩
theorem Go.trans {K : PySem.W.Frag} {Z : Hp} {H H1 H2 : Hp} {M M1 M2 : Mp} (a : Go K Z H M H1 M1) (b : Go K Z H1 M1 H2 M2) : Go K Z H M H2 M2 := ⟨b.sat, a.ex.trans b.ex⟩
/-- a cell whose object stands as it stood -/
theorem CellOk.same {K : PySem.W.Frag} {Z Z' : Hp} {H H' : Hp} {M M' : Mp} {a : Addr} {c : Cell} (q : CellOk K Z H M a c) (ex : Same (fz Z H M) (fz Z' H' M')) (ha : ∀ o, H a = some o → H' a = some o)
    (aux : ∀ b, M b = some .aux → M' b = some .aux ∧ ∀ o, H b = some o → H' b = some o) : CellOk K Z' H' M' a c := by
  cases c with
  | aux =>
    obtain ⟨o, e⟩ := q
    exact ⟨o, ha o e⟩
  | drw a0 =>
    obtain ⟨m0, cs, s, e, e0, r⟩ := q
    obtain ⟨m1, k⟩ := aux a0 m0
    exact ⟨m1, cs, s, ha _ e, k _ e0, r⟩
  | lst ds =>
    obtain ⟨vs, e, r⟩ := q
    exact ⟨vs, ha _ e, r.up ex⟩
  | ins x fs =>
    obtain ⟨C, dx, fv, cl, e, r⟩ := q
    exact ⟨C, dx, fv, cl, ha _ e, r.up ex⟩
  | dic lk kd =>
    obtain ⟨kv, u, e, l, r⟩ := q
    exact ⟨kv, u, ha _ e, l, r.up ex⟩
  | tab x q0 => exact TabOk.go q ex ha
  | box =>
    obtain ⟨c, s, t, e, r⟩ := q
    exact ⟨c, s, t, ha _ e, r⟩
  | err x fs =>
    obtain ⟨C, dx, fv, cl, e, ed, r⟩ := q
    exact ⟨C, dx, fv, cl, ha _ e, ex _ _ ed, r.up ex⟩
/-- a new object that never changes -/
theorem Go.laid {K : PySem.W.Frag} {Z : Hp} {H : Hp} {M : Mp} {p : Addr} {o : HO} (S : Sat K Z H M) (hp : H p = none) : Go K Z H M (upd H p o) M ∧ fz Z (upd H p o) M p = some o := by
  have hm := S.free hp
  have hz := S.freeZ hp
  have up : ∀ b u, H b = some u → upd H p o b = some u := fun b u e => by
    rw [upd_ne (ne_of_none e hp)]
    exact e
  have ex : Same (fz Z H M) (fz Z (upd H p o) M) := fun b u e => fz_to (fz_is e).1 (fz_is e).2.1 (up b u (fz_is e).2.2)
  exact ⟨⟨⟨fun a c h => (S.cell a c h).same ex (up a) fun b e => ⟨e, up b⟩, fun a u h => ⟨up a u (S.zed a u h).1, (S.zed a u h).2⟩⟩, ex⟩, fz_to hm hz upd_same⟩
/-- a list of the store: new, or changed -/
theorem Go.putL {K : PySem.W.Frag} {Z : Hp} {H : Hp} {M : Mp} {p : Addr} {vs : List V} {ds : List D} (S : Sat K Z H M) (hp : (H p = none) ∨ ∃ es, M p = some (.lst es)) (r : RepL K (fz Z H M) vs ds) : Go K Z H M (upd H p (.lst vs)) (setM M p (.lst ds)) := by
  have hz : Z p = none := by
    rcases hp with h | ⟨es, h⟩
    · exact S.freeZ h
    · cases q : Z p with
      | none => rfl
      | some u =>
        have e := (S.zed p u q).2
        rw [h] at e
        cases e
  have hf : ∀ u, fz Z H M p ≠ some u := fun u e => by
    obtain ⟨e1, _, e2⟩ := fz_is e
    rcases hp with h | ⟨es, h⟩
    · rw [h] at e2
      cases e2
    · rw [h] at e1
      cases e1
  have hx : M p ≠ some .aux := fun e => by
    rcases hp with h | ⟨es, h⟩
    · obtain ⟨o, e'⟩ := S.there e
      rw [h] at e'
      cases e'
    · rw [h] at e
      cases e
  have ex : Same (fz Z H M) (fz Z (upd H p (.lst vs)) (setM M p (.lst ds))) := fun b u e => by
    have hb : b ≠ p := fun z => by
      subst z
      exact hf u e
    obtain ⟨e1, e2, e3⟩ := fz_is e
    exact fz_to (by rw [setM_ne hb]; exact e1) e2 (by rw [upd_ne hb]; exact e3)
  have aux : ∀ b, M b = some .aux → setM M p (.lst ds) b = some .aux ∧ ∀ o, H b = some o → upd H p (.lst vs) b = some o := fun b e => by
    have hb : b ≠ p := fun z => by
      subst z
      exact hx e
    exact ⟨by rw [setM_ne hb]; exact e, fun o q => by rw [upd_ne hb]; exact q⟩
  refine ⟨⟨fun a c h => ?_, fun a u h => ?_⟩, ex⟩
  · by_cases ha : a = p
    · subst ha
      rw [setM_same] at h
      cases h
      exact ⟨vs, upd_same, r.up ex⟩
    · rw [setM_ne ha] at h
      exact (S.cell a c h).same ex (fun o q => by rw [upd_ne ha]; exact q) aux
  · have ha : a ≠ p := fun z => by
      subst z
      rw [hz] at h
      cases h
    exact ⟨by rw [upd_ne ha]; exact (S.zed a u h).1, by rw [setM_ne ha]; exact (S.zed a u h).2⟩
/-- any cell: new, or changed -/
theorem Go.put {K : PySem.W.Frag} {Z : Hp} {H : Hp} {M : Mp} {p : Addr} {o : HO} {c : Cell} (S : Sat K Z H M) (hp : (H p = none) ∨ ∃ c0, M p = some c0 ∧ c0 ≠ .aux) (ok : Same (fz Z H M) (fz Z (upd H p o) (setM M p c)) → CellOk K Z (upd H p o) (setM M p c) p c) : Go K Z H M (upd H p o) (setM M p c) := by
  have hz : Z p = none := by
    rcases hp with h | ⟨c0, h, _⟩
    · exact S.freeZ h
    · cases q : Z p with
      | none => rfl
      | some u =>
        have e := (S.zed p u q).2
        rw [h] at e
        cases e
  have hf : ∀ u, fz Z H M p ≠ some u := fun u e => by
    obtain ⟨e1, _, e2⟩ := fz_is e
    rcases hp with h | ⟨c0, h, _⟩
    · rw [h] at e2
      cases e2
    · rw [h] at e1
      cases e1
  have hx : M p ≠ some .aux := fun e => by
    rcases hp with h | ⟨c0, h, n⟩
    · obtain ⟨o, e'⟩ := S.there e
      rw [h] at e'
      cases e'
    · rw [h] at e
      cases e
      exact n rfl
  have ex : Same (fz Z H M) (fz Z (upd H p o) (setM M p c)) := fun b u e => by
    have hb : b ≠ p := fun z => by
      subst z
      exact hf u e
    obtain ⟨e1, e2, e3⟩ := fz_is e
    exact fz_to (by rw [setM_ne hb]; exact e1) e2 (by rw [upd_ne hb]; exact e3)
  have aux : ∀ b, M b = some .aux → setM M p c b = some .aux ∧ ∀ u, H b = some u → upd H p o b = some u := fun b e => by
    have hb : b ≠ p := fun z => by
      subst z
      exact hx e
    exact ⟨by rw [setM_ne hb]; exact e, fun u q => by rw [upd_ne hb]; exact q⟩
  refine ⟨⟨fun a c' h => ?_, fun a u h => ?_⟩, ex⟩
  · by_cases ha : a = p
    · subst ha
      rw [setM_same] at h
      cases h
      exact ok ex
    · rw [setM_ne ha] at h
      exact (S.cell a c' h).same ex (fun u q => by rw [upd_ne ha]; exact q) aux
  · have ha : a ≠ p := fun z => by
      subst z
      rw [hz] at h
      cases h
    exact ⟨by rw [upd_ne ha]; exact (S.zed a u h).1, by rw [setM_ne ha]; exact (S.zed a u h).2⟩
/-- a draw: the two lists of the numbers change -/
theorem Go.drawn {K : PySem.W.Frag} {Z : Hp} {H H' : Hp} {M : Mp} {a a0 : Addr} (S : Sat K Z H M) (hp : M a = some (.drw a0)) (k : ∀ b o, b ≠ a → b ≠ a0 → H b = some o → H' b = some o) (q : DrawOk H' a a0) : Go K Z H M H' M := by
  obtain ⟨m0, _⟩ := S.cell a _ hp
  have ex : Same (fz Z H M) (fz Z H' M) := fun b u e => by
    obtain ⟨e1, e2, e3⟩ := fz_is e
    have h1 : b ≠ a := fun z => by
      subst z
      rw [hp] at e1
      cases e1
    have h2 : b ≠ a0 := fun z => by
      subst z
      rw [m0] at e1
      cases e1
    exact fz_to e1 e2 (k b _ h1 h2 e3)
  refine ⟨⟨fun b c h => ?_, fun b u h => ?_⟩, ex⟩
  · by_cases h1 : b = a
    · subst h1
      rw [hp] at h
      cases h
      exact ⟨m0, q⟩
    · by_cases h2 : b = a0
      · subst h2
        rw [m0] at h
        cases h
        obtain ⟨cs', s', _, e0', _⟩ := q
        exact ⟨_, e0'⟩
      · cases c with
        | drw b0 =>
          obtain ⟨n0, cs, s, e, e0, r⟩ := S.cell b _ h
          refine ⟨n0, ?_⟩
          by_cases h3 : b0 = a0
          · subst h3
            obtain ⟨cs', s', _, e0', _, _, l', g'⟩ := q
            exact ⟨cs', s, k b _ h1 h2 e, e0', r.1, r.2.1, l', g'⟩
          · have h4 : b0 ≠ a := fun z => by
              subst z
              rw [hp] at n0
              cases n0
            exact ⟨cs, s, k b _ h1 h2 e, k b0 _ h4 h3 e0, r⟩
        | lst ds =>
          obtain ⟨vs, e, r⟩ := S.cell b _ h
          exact ⟨vs, k b _ h1 h2 e, r.up ex⟩
        | aux =>
          obtain ⟨o, e⟩ := S.cell b _ h
          exact ⟨o, k b _ h1 h2 e⟩
        | ins x fs =>
          obtain ⟨C, dx, fv, cl, e, r⟩ := S.cell b _ h
          exact ⟨C, dx, fv, cl, k b _ h1 h2 e, r.up ex⟩
        | dic lk kd =>
          obtain ⟨kv, u, e, l, r⟩ := S.cell b _ h
          exact ⟨kv, u, k b _ h1 h2 e, l, r.up ex⟩
        | tab x q0 => exact TabOk.go (S.cell b _ h) ex (fun o e => k b o h1 h2 e)
        | box =>
          obtain ⟨c, s, t, e, r⟩ := S.cell b _ h
          exact ⟨c, s, t, k b _ h1 h2 e, r⟩
        | err x fs =>
          obtain ⟨C, dx, fv, cl, e, ed, r⟩ := S.cell b _ h
          exact ⟨C, dx, fv, cl, k b _ h1 h2 e, ex _ _ ed, r.up ex⟩
  · obtain ⟨e1, e2⟩ := S.zed b u h
    have h1 : b ≠ a := fun z => by
      subst z
      rw [hp] at e2
      cases e2
    have h2 : b ≠ a0 := fun z => by
      subst z
      rw [m0] at e2
      cases e2
    exact ⟨k b _ h1 h2 e1, e2⟩
/-- an object is hidden while something else runs; it is another one then, or is shown again -/
theorem Sat.swap {K : PySem.W.Frag} {Z Z' : Hp} {H H' : Hp} {M : Mp} {p : Addr} (S : Sat K Z H M) (hm : M p = none) (hf : fz Z H M p = none) (hH : ∀ b, b ≠ p → H' b = H b) (hZ : ∀ b, b ≠ p → Z' b = Z b) (hq : ∀ o, Z' p = some o → H' p = some o) : Sat K Z' H' M ∧ Same (fz Z H M) (fz Z' H' M) := by
  have ex : Same (fz Z H M) (fz Z' H' M) := fun b v e => by
    have hb : b ≠ p := fun z => by
      subst z
      rw [hf] at e
      cases e
    obtain ⟨e1, e2, e3⟩ := fz_is e
    exact fz_to e1 (by rw [hZ b hb]; exact e2) (by rw [hH b hb]; exact e3)
  have ne : ∀ {b : Addr} {c : Cell}, M b = some c → b ≠ p := fun {b c} e z => by
    subst z
    rw [hm] at e
    cases e
  refine ⟨⟨fun a c h => (S.cell a c h).same ex (fun o q => by rw [hH a (ne h)]; exact q) fun b e => ⟨e, fun o q => by rw [hH b (ne e)]; exact q⟩, fun a v h => ?_⟩, ex⟩
  by_cases ha : a = p
  · subst ha
    exact ⟨hq v h, hm⟩
  · rw [hZ a ha] at h
    exact ⟨by rw [hH a ha]; exact (S.zed a v h).1, (S.zed a v h).2⟩
/-! ### readings over data -/
abbrev En := List (Option D)
abbrev KD := D → Mp → Prop
abbrev WE := En → Mp → KD → Prop
abbrev WT := En → Mp → (Bool → Mp → Prop) → Prop
abbrev WA := En → Mp → (List D → Mp → Prop) → Prop
/-- what is wished of what is raised: its class, its dict, its fields' names and values, the environment -/
abbrev XV := List Str × List D
abbrev XR := Str → Addr → XV → En → Mp → Prop
abbrev XF := Str → XV → Mp → Prop
/-- .. behind a def -/
def lx (R : XF) : XR := fun x _ fs _ M => R x fs M
abbrev WX3 := Value → Option Addr → L2.St → Hp → Prop
structure Ends3 where
  nx : En → Mp → Prop
  rt : KD
  bk : En → Mp → Prop := fun _ _ => False
  ct : En → Mp → Prop := fun _ _ => False
  xr : XR := fun _ _ _ _ _ => False
abbrev WS := Ends3 → En → Mp → Prop
/-- the slots hold what the environment says -/
def RelS (K : PySem.W.Frag) (Hf : Hp) (σ : L2.St) (ρ : En) : Prop := σ.length = ρ.length ∧ ∀ (i : Nat) (d : D), ρ[i]? = some (some d) → ∃ v, σ[i]? = some (some v) ∧ Rep K Hf v d
theorem RelS.up {K : PySem.W.Frag} {H H' : Hp} {σ : L2.St} {ρ : En} (h : RelS K H σ ρ) (e : Same H H') : RelS K H' σ ρ := ⟨h.1, fun i d q => by
  obtain ⟨v, a, b⟩ := h.2 i d q
  exact ⟨v, a, b.up e⟩⟩
theorem RelS.set {K : PySem.W.Frag} {H : Hp} {σ : L2.St} {ρ : En} {v : V} {d : D} (h : RelS K H σ ρ) (j : Nat) (r : Rep K H v d) : RelS K H (σ.set j (some v)) (ρ.set j (some d)) := by
  refine ⟨by rw [List.length_set, List.length_set]; exact h.1, fun i e q => ?_⟩
  by_cases hij : i = j
  · subst hij
    have hl : i < ρ.length := by
      rcases Nat.lt_or_ge i ρ.length with z | z
      · exact z
      · rw [List.getElem?_eq_none (by rw [List.length_set]; exact z)] at q
        cases q
    rw [List.getElem?_set_self hl] at q
    cases q
    exact ⟨v, List.getElem?_set_self (by rw [h.1]; exact hl), r⟩
  · rw [List.getElem?_set_ne (Ne.symm hij)] at q
    obtain ⟨u, a, b⟩ := h.2 i e q
    exact ⟨u, by rw [List.getElem?_set_ne (Ne.symm hij)]; exact a, b⟩
structure R3 (K : PySem.W.Frag) (Z : Hp) (ρ : En) (M : Mp) (σ : L2.St) (H : Hp) : Prop where
  sat : Sat K Z H M
  env : RelS K (fz Z H M) σ ρ
theorem R3.go {K : PySem.W.Frag} {Z : Hp} {ρ : En} {M M' : Mp} {σ : L2.St} {H H' : Hp} (r : R3 K Z ρ M σ H) (g : Go K Z H M H' M') : R3 K Z ρ M' σ H' := ⟨g.sat, r.env.up g.ex⟩
theorem R3.refl {K : PySem.W.Frag} {Z : Hp} {ρ : En} {M : Mp} {σ : L2.St} {H : Hp} (r : R3 K Z ρ M σ H) : Go K Z H M H M := Go.refl r.sat
def SimE (K : PySem.W.Frag) (t : TE) (w : WE) : Prop := ∀ (Z : Hp) (ρ : En) (M : Mp) (σ : L2.St) (H : Hp) (Q : KD) (Q' : VK), R3 K Z ρ M σ H → w ρ M Q → (∀ v d H' M', Go K Z H M H' M' → Rep K (fz Z H' M') v d → Q d M' → Q' v H') → t σ H Q'
def SimT (K : PySem.W.Frag) (t : TT) (w : WT) : Prop := ∀ (Z : Hp) (ρ : En) (M : Mp) (σ : L2.St) (H : Hp) (Q : Bool → Mp → Prop) (Q' : Bool → Hp → Prop), R3 K Z ρ M σ H → w ρ M Q → (∀ b H' M', Go K Z H M H' M' → Q b M' → Q' b H') → t σ H Q'
def SimA (K : PySem.W.Frag) (t : TA) (w : WA) : Prop := ∀ (Z : Hp) (ρ : En) (M : Mp) (σ : L2.St) (H : Hp) (Q : List D → Mp → Prop) (Q' : List V → Hp → Prop), R3 K Z ρ M σ H → w ρ M Q → (∀ v d H' M', Go K Z H M H' M' → RepL K (fz Z H' M') v d → Q d M' → Q' v H') → t σ H Q'
structure EndsRel (K : PySem.W.Frag) (Z : Hp) (E : WX3) (H : Hp) (M : Mp) (D3 : Ends3) (D : Ends) : Prop where
  nx : ∀ ρ' M' σ' H', R3 K Z ρ' M' σ' H' → Go K Z H M H' M' → D3.nx ρ' M' → D.nx σ' H'
  rt : ∀ v d H' M', Go K Z H M H' M' → Rep K (fz Z H' M') v d → D3.rt d M' → D.rt v H'
  bk : ∀ ρ' M' σ' H', R3 K Z ρ' M' σ' H' → Go K Z H M H' M' → D3.bk ρ' M' → D.bk σ' H'
  ct : ∀ ρ' M' σ' H', R3 K Z ρ' M' σ' H' → Go K Z H M H' M' → D3.ct ρ' M' → D.ct σ' H'
  xr : ∀ x C dx vs (fs : XV) ρ' σ' H' M', ClsAt K x C → R3 K Z ρ' M' σ' H' → Go K Z H M H' M' → fz Z H' M' dx = some (.xd (fs.1.zip vs)) → fs.1.length = vs.length → RepL K (fz Z H' M') vs fs.2 → D3.xr x dx fs ρ' M' → E (.ref C) (some dx) σ' H'
theorem EndsRel.go {K : PySem.W.Frag} {Z : Hp} {E : WX3} {H H' : Hp} {M M' : Mp} {D3 : Ends3} {D : Ends} (r : EndsRel K Z E H M D3 D) (g : Go K Z H M H' M') : EndsRel K Z E H' M' D3 D :=
  ⟨fun ρ N σ J a b c => r.nx ρ N σ J a (g.trans b) c, fun v d J N a b c => r.rt v d J N (g.trans a) b c, fun ρ N σ J a b c => r.bk ρ N σ J a (g.trans b) c, fun ρ N σ J a b c => r.ct ρ N σ J a (g.trans b) c,
    fun x C dx vs fs ρ σ J N k q a b l c z => r.xr x C dx vs fs ρ σ J N k q (g.trans a) b l c z⟩
def SimS (K : PySem.W.Frag) (E : WX3) (t : TS) (w : WS) : Prop := ∀ (Z : Hp) (D3 : Ends3) (ρ : En) (M : Mp) (σ : L2.St) (H : Hp) (D : Ends), R3 K Z ρ M σ H → w D3 ρ M → EndsRel K Z E H M D3 D → t D σ H
structure DE (X : Cx) (e : Expr) (t : TE) (w : WE) : Prop where
  pe : PE X e t
  sm : SimE X.K t w
structure DT (X : Cx) (e : Expr) (t : TT) (w : WT) : Prop where
  pe : PT X e t
  sm : SimT X.K t w
structure DW (X : Cx) (e : Expr) (t : TT) (w : WT) : Prop where
  pe : PW X e t
  sm : SimT X.K t w
structure DA (X : Cx) (e : List Expr) (t : TA) (w : WA) : Prop where
  pe : PA X e t
  sm : SimA X.K t w
structure DS (X : Cx) (E : WX3) (st : Stmt) (t : TS) (w : WS) : Prop where
  pe : PS X st t
  sm : SimS X.K E t w
structure DSs (X : Cx) (E : WX3) (st : List Stmt) (t : TS) (w : WS) : Prop where
  pe : PSs X st t
  sm : SimS X.K E t w
end L3
namespace L3
open PySem L2
open PyProof.Rows (envOfC)
/-! ### defs, called where nothing is being shown -/
structure FnG (P : Program) (w : World) (K : PySem.W.Frag) (mg : Str → Option Value) (base : Heap) (k : Nat) (f : Addr) (fd : FuncData) (ps : List Str) (sp : Sp) : Prop where
  len : ∀ vs H Q E, sp vs H Q E → vs.length = ps.length
  run : ∀ (A : Around) (outer : List Env) (s : Shared) (H : Hp) (args : Args) (us : List Value) (vs : List V) (Q : VK) (E : XK), A.guards = some [] → Room k A → Env0 P w K mg base A outer s H → BindsTo s fd args (ps.zip us) → Vals vs us → sp vs H Q E →
    codeAny (model P w) A (.call (.ref f) args) (CR (L2.CX P w) outer P w H s Q E) s
theorem FnG.mono {P : Program} {w : World} {K : PySem.W.Frag} {mg : Str → Option Value} {base : Heap} {j k : Nat} {f : Addr} {fd : FuncData} {ps : List Str} {sp : Sp} (F : FnG P w K mg base j f fd ps sp) (h : j ≤ k) : FnG P w K mg base k f fd ps sp :=
  ⟨F.len, fun A o s H ar us vs Q E g hr => F.run A o s H ar us vs Q E g (hr.mono h)⟩
section
variable {P : Program} {w : World} {K : PySem.W.Frag} {mg : Str → Option Value} {base : Heap}
theorem fn_g {x qual : Str} {st : Stmt} {f : Addr} {fd : FuncData} {N ps : List Str} {k : Nat} {sp : Sp} (F : Fun K x qual st f fd) (S : FnScope N ps (defScope st)) (len : ∀ vs H Q E, sp vs H Q E → vs.length = ps.length)
    (body : ∀ (cdv : Value) (A : Around) (outer : List Env) (s : Shared) (H : Hp) (vs : List V) (Q : VK) (E : XK), A.guards = some [] → Room k (A.deeper (envOfC qual (defScope st) s.heap.objs.size f cdv)) → sp vs H Q E →
      ∃ t, PSs (cxOf (L2.CX P w) P w K mg base N qual (defScope st) f cdv A outer s H E) (defBody st) t ∧ t { nx := fun _ J => Q .non J, rt := Q } (L2.start N vs) H) : FnG P w K mg base (k + 1) f fd ps sp := by
  obtain ⟨oc, od, kV, doc, pm, an, cdv, ct, osl, rfl, lk, hcd⟩ := F.ex
  refine ⟨len, fun A outer s H args us vs Q E gd hr e0 hb r hs => ?_⟩
  have hlen := len _ _ _ _ hs
  have kin : K.In s.heap := e0.mod.kin.keeps fun b o e => (e0.bs b o e).1
  have nol : s.heap.NoLimit := e0.mod.nolimit.keeps fun b o e => (e0.bs b o e).1
  have kinds : ∀ y ∈ ps.zip us, (defScope st).names.lookup y.1 = some .local ∨ ((defScope st).names.lookup y.1 = some .cell ∧ ((cellsFrom (s.heap.objs.size + 1) (defScope st).names []).lookup y.1).isSome = true) := fun ⟨n, v⟩ hy => by
    rcases S.par n (List.of_mem_zip hy).1 with z | z
    · exact .inl z
    · exact .inr ⟨z, PySem.W.cellsFrom_some _ _ _ (.inl z)⟩
  refine codeAny_call_function hr.depth (kin _ _ lk) rfl S.co S.gen rfl (PySem.W.codeRec_of kin hcd) (hb _ _ _ _ ?_)
  refine wpAny_newFunctionEnv_cells S.kind kinds fun env he s1 c => ?_
  subst he
  refine ⟨nol.keeps c.toInCall.keep, codeAny_func ?_⟩
  obtain ⟨t, ht, hq⟩ := body cdv A outer s H vs Q E gd (hr.deeper _) hs
  have I : Inv (cxOf (L2.CX P w) P w K mg base N qual (defScope st) f cdv A outer s H E) [] (L2.start N vs) H s1 := inv_start S hr.hd e0 hlen r c
  refine wpAny_mono (ht.run [] s1 (L2.start N vs) H _ I hq) (fun fl s' hz => ?_) fun e s' hz => hz
  have fin : ∀ {σ' : L2.St} {H' : Hp} {v : V} {u : Value}, Inv (cxOf (L2.CX P w) P w K mg base N qual (defScope st) f cdv A outer s H E) [] σ' H' s' → RelV v u → Q v H' → CE outer P w H s Q u s' :=
    fun {σ' H' v u} J rv z => ⟨v, H', J.os, J.bare, J.base, J.hok, rv, z⟩
  cases fl with
  | ret u =>
    obtain ⟨v, σ', H', J, rv, z⟩ := hz
    exact fin J rv z
  | next =>
    obtain ⟨σ', H', J, z⟩ := hz
    exact fin (v := V.non) (u := Value.none) J rfl z
  | brk => exact (hz.elim fun _ h => h.elim fun _ h => h.2).elim
  | cont => exact (hz.elim fun _ h => h.elim fun _ h => h.2).elim
end
section
variable {X : Cx} {k : Nat} {f C : Addr} {fd : FuncData} {ps : List Str} {sp : Sp} {dvs : List V} {ds : List Value} {E : XK} {x m : Str} {p pos apos : Pos} {e o : Expr} {es : List Expr} {ta : TE} {t : TA}
theorem run_g {pins : List (Addr × Obj)} {σ : L2.St} {H : Hp} {s : Shared} {Q : VK} {us ws : List Value} {vs : List V} {kw : List (Str × Value)} (F : FnG X.prog X.w X.K X.mg X.base k f fd ps sp) (hr : Room k X.A) (gd : X.A.guards = some []) (hx : Passes (L2.CX X.prog X.w) X E)
    (I : Inv X pins σ H s) (hb : BindsTo s fd ⟨us, kw⟩ (ps.zip ws)) (r : Vals vs ws) (h : sp vs H Q E) : wpAny (model X.prog X.w) X.A (call (.ref f) us kw) (EP X pins σ Q) X.xe s := by
  refine wpAny_call (codeAny_mono (F.run X.A X.stack s H ⟨us, kw⟩ ws vs Q E gd hr I.env0 hb r h) fun rr s' hq => ?_)
  cases rr with
  | error er => exact hx pins σ H s er s' I hq
  | ok fl =>
    cases fl with
    | ret u => exact I.after hq
    | next => exact hq.elim
    | brk => exact hq.elim
    | cont => exact hq.elim
def tCallG (sp : Sp) (dvs : List V) (E : XK) (t : TA) : TE := fun σ H Q => t σ H fun vs J => sp (vs ++ dvs) J Q E
theorem pe_callG (F : FnG X.prog X.w X.K X.mg X.base k f fd ps sp) (hr : Room k X.A) (gd : X.A.guards = some []) (hg : Gl X x) (hm : X.mg x = some (.ref f)) (hk : PySem.W.keepIn X.K (.ref f) = true) (hb : Binds X.K fd ps ds) (hd : Vals dvs ds) (hx : Passes (L2.CX X.prog X.w) X E)
    (ha : PA X (e :: es) t) (hdb : (x == ("__debug__" : Str)) = false := by decide) (he : starEach (e :: es) X.env = (false, eval e X.env) :: starEach es X.env := by rfl) (hpl : (backTo pos (starEach es X.env)).any (·.1) = false := by rfl) :
    PE X (.Call (.Name x p) (e :: es) [] pos) (tCallG sp dvs E t) := by
  constructor
  intro pins s σ H Q I h
  refine wpAny_Call_Name_kw (ld_glob I hg hm ?_ hdb)
  refine PySem.W.callWith_K (h₀ := X.base) I.ok.mod.kin hk (thn (ha.run pos pins s σ H _ I h) fun us s1 ⟨vs, J, I1, r, q⟩ => ⟨I1.kIn, ?_⟩) he hpl
  have r2 : Vals (vs ++ dvs) (us ++ ds) := r.append hd
  have hl : (us ++ ds).length = ps.length := by rw [← r2.length]; exact F.len _ _ _ _ q
  exact run_g (us := us) (kw := []) F hr gd hx I1 (hb s1 us I1.kIn hl) r2 q
/-- the parameters' values, each by its place among what is written: first the positional ones, then the keywords' -/
def perm (idx : List Nat) (vs zs : List V) : List V := idx.map fun i => (vs ++ zs).getD i .non
def permU (idx : List Nat) (vs zs : List Value) : List Value := idx.map fun i => (vs ++ zs).getD i .none
theorem perm_rel (idx : List Nat) {vs zs : List V} {us ws : List Value} (r : Vals vs us) (q : Vals zs ws) : Vals (perm idx vs zs) (permU idx us ws) := by
  have ra := r.append q
  unfold perm permU
  induction idx with
  | nil => exact .nil
  | cons i is ih =>
    refine .cons ?_ ih
    show RelV ((vs ++ zs).getD i .non) ((us ++ ws).getD i .none)
    rw [List.getD_eq_getElem?_getD, List.getD_eq_getElem?_getD]
    cases e : (vs ++ zs)[i]? with
    | none =>
      rw [ra.none_of e]
      rfl
    | some v =>
      obtain ⟨u, h1, h2⟩ := ra.get e
      rw [h1]
      exact h2
/-- how a call with keywords binds -/
def KB (K : PySem.W.Frag) (fd : FuncData) (ps : List Str) (n : Nat) (ks : List Str) (idx : List Nat) : Prop := ∀ (s : Shared) (us ws : List Value), K.In s.heap → us.length = n → ws.length = ks.length → BindsTo s fd ⟨us, ks.zip ws⟩ (ps.zip (permU idx us ws))
end
/-! ### contracts over data -/
abbrev Fs := List D → Mp → KD → XF → Prop
def lift (K : PySem.W.Frag) (F : Fs) : Sp := fun vs H Q E => ∃ (Z : Hp) (ds : List D) (M : Mp) (Qd : KD) (Rd : XF), Sat K Z H M ∧ RepL K (fz Z H M) vs ds ∧ F ds M Qd Rd ∧
  (∀ v d H' M', Go K Z H M H' M' → Rep K (fz Z H' M') v d → Qd d M' → Q v H') ∧ (∀ x C dx vs (fs : XV) H' M', ClsAt K x C → Go K Z H M H' M' → fz Z H' M' dx = some (.xd (fs.1.zip vs)) → fs.1.length = vs.length → RepL K (fz Z H' M') vs fs.2 → Rd x fs M' → E (.ref C) (some dx) H')
/-- the environment at a def's entry -/
def startE (n : Nat) (ds : List D) : En := ds.map some ++ List.replicate (n - ds.length) none
theorem start_rel {K : PySem.W.Frag} {H : Hp} {N : List Str} {vs : List V} {ds : List D} (r : RepL K H vs ds) : RelS K H (L2.start N vs) (startE N.length ds) := by
  unfold L2.start startE
  refine ⟨?_, fun i d e => ?_⟩
  · rw [List.length_append, List.length_append, List.length_map, List.length_map, List.length_replicate, List.length_replicate, r.len]
  · have hl := r.len
    by_cases hi : i < ds.length
    · rw [List.getElem?_append_left (by rw [List.length_map]; exact hi), List.getElem?_map] at e
      cases q : ds[i]? with
      | none =>
        rw [q] at e
        cases e
      | some d' =>
        rw [q] at e
        obtain rfl : d' = d := Option.some.inj (Option.some.inj e)
        obtain ⟨v, h1, h2⟩ := r.get q
        refine ⟨v, ?_, h2⟩
        rw [List.getElem?_append_left (by rw [List.length_map, hl]; exact hi), List.getElem?_map, h1]
        rfl
    · rw [List.getElem?_append_right (by rw [List.length_map]; omega), List.getElem?_replicate] at e
      split at e <;> cases e
def lw (E : XK) : WX3 := fun cls d _ H => E cls d H
section
variable {P : Program} {w : World} {K : PySem.W.Frag} {mg : Str → Option Value} {base : Heap}
theorem ok_fn {x qual : Str} {st : Stmt} {f : Addr} {fd : FuncData} {N ps : List Str} {k : Nat} {F : Fs} (Fn : Fun K x qual st f fd) (S : FnScope N ps (defScope st)) (len : ∀ ds M Q E, F ds M Q E → ds.length = ps.length)
    (body : ∀ (cdv : Value) (A : Around) (outer : List Env) (s : Shared) (H : Hp) (E : XK), A.guards = some [] → Room k (A.deeper (envOfC qual (defScope st) s.heap.objs.size f cdv)) →
      ∃ t wr, DSs (cxOf (L2.CX P w) P w K mg base N qual (defScope st) f cdv A outer s H E) (lw E) (defBody st) t wr ∧ ∀ ds M Q R, F ds M Q R → wr { nx := fun _ M' => Q .non M', rt := Q, xr := lx R } (startE N.length ds) M) : FnG P w K mg base (k + 1) f fd ps (lift K F) := by
  refine fn_g Fn S (fun vs H Q E h => ?_) (fun cdv A outer s H vs Q E gd hr h => ?_)
  · obtain ⟨Z, ds, M, Qd, Rd, _, r, q, _⟩ := h
    rw [r.len]
    exact len _ _ _ _ q
  · obtain ⟨Z, ds, M, Qd, Rd, sat, r, q, kq, kr⟩ := h
    obtain ⟨t, wr, hd, hw⟩ := body cdv A outer s H E gd hr
    refine ⟨t, hd.pe, hd.sm _ _ _ _ _ _ _ ⟨sat, start_rel r⟩ (hw ds M _ _ q) ⟨fun ρ' M' σ' H' _ g z => kq _ _ _ _ g .non z, fun v d H' M' g rp z => kq v d H' M' g rp z, fun _ _ _ _ _ _ z => z.elim, fun _ _ _ _ _ _ z => z.elim, fun x C dx vs fs ρ' σ' H' M' ca _ g e1 l rf z => kr x C dx vs fs H' M' ca g e1 l rf z⟩⟩
end
end L3
namespace L3
open PySem L2
/-! ### what can be shown, dicts too: only a dict must not be the table of modules -/
mutual
inductive RdD (h : Heap) : Value → PyData → Prop
  | non : RdD h .none .none
  | bl (b : Bool) : RdD h (.bool b) (.bool b)
  | int (i : Int) (t : Tok) : RdD h (.int i t) (.int i)
  | str (x : Str) (t : Tok) : RdD h (.str x t) (.str x)
  | lst {a : Addr} {o : Obj} {vs : Array Value} {n : Nat} {ds : List PyData} (g : h.get? a = some o) (c : o.cls = .type "list") (e : o.data = .seq vs n) (r : RdDs h vs.toList ds) : RdD h (.ref a) (.list ds)
  | tup {a : Addr} {o : Obj} {vs : Array Value} {n : Nat} {ds : List PyData} (g : h.get? a = some o) (c : o.cls = .type "tuple") (e : o.data = .seq vs n) (r : RdDs h vs.toList ds) : RdD h (.ref a) (.tuple ds)
  | dct {a : Addr} {o : Obj} {es : Array DictEntry} {n : Nat} {ps : List (PyData × PyData)} (g : h.get? a = some o) (c : o.cls = .type "dict") (e : o.data = .dict es n) (m : (a == sysModules) = false)
      (rk : RdDs h (es.toList.map (·.key)) (ps.map (·.1))) (rv : RdDs h (es.toList.map (·.val)) (ps.map (·.2))) : RdD h (.ref a) (.dict ps)
inductive RdDs (h : Heap) : List Value → List PyData → Prop
  | nil : RdDs h [] []
  | cons {v : Value} {vs : List Value} {d : PyData} {ds : List PyData} (r : RdD h v d) (rs : RdDs h vs ds) : RdDs h (v :: vs) (d :: ds)
end
mutual
theorem RdD.reads {h : Heap} : ∀ {v : Value} {d : PyData}, RdD h v d → ∃ as, Reads h v d as
  | _, _, .non => ⟨_, .none⟩
  | _, _, .bl b => ⟨_, .bool b⟩
  | _, _, .int i t => ⟨_, .int i t⟩
  | _, _, .str x t => ⟨_, .str x t⟩
  | _, _, .lst g c e r => let ⟨_, q⟩ := r.reads; ⟨_, .list g c e q⟩
  | _, _, .tup g c e r => let ⟨_, q⟩ := r.reads; ⟨_, .tuple g c e q⟩
  | _, _, .dct g c e _ rk rv => let ⟨_, q⟩ := rk.reads; let ⟨_, q2⟩ := rv.reads; ⟨_, .dict g c e q q2⟩
theorem RdDs.reads {h : Heap} : ∀ {v : List Value} {d : List PyData}, RdDs h v d → ∃ as, ReadsAll h v d as
  | _, _, .nil => ⟨_, .nil⟩
  | _, _, .cons r rs => let ⟨_, q⟩ := r.reads; let ⟨_, q2⟩ := rs.reads; ⟨_, .cons q q2⟩
end
theorem kv_keys_le (ps : List (PyData × PyData)) {t : Str} (hz : (dictText (PyData.shownKv ps)).length ≤ sizeLine) (ht : t ∈ PyData.shownAll (ps.map (·.1))) : t.length ≤ sizeLine := by
  obtain ⟨p, hp, hl⟩ := PyData.shownKv_key_le ps t ht
  have := dictText_mem_le hp
  omega
theorem kv_vals_le (ps : List (PyData × PyData)) {t : Str} (hz : (dictText (PyData.shownKv ps)).length ≤ sizeLine) (ht : t ∈ PyData.shownAll (ps.map (·.2))) : t.length ≤ sizeLine := by
  obtain ⟨p, hp, hl⟩ := PyData.shownKv_val_le ps t ht
  have := dictText_mem_le hp
  omega
section
variable {prog : Program} {w : World} {h : Heap}
mutual
theorem RdD.rep : ∀ {v : Value} {d : PyData}, RdD h v d → d.showable = true → d.shown.length ≤ sizeLine → ∃ bs, ReadAtMost h d.depth bs ∧ ReprK prog w bs h d.depth v d.shown
  | _, _, .non, _, _ => ⟨[], (fun _ z => nomatch z), by simp only [PyData.shown]; exact .of_is ReprIs.none _ _ _⟩
  | _, _, .bl b, _, _ => ⟨[], (fun _ z => nomatch z), by simp only [PyData.shown]; exact .of_is (ReprIs.bool b) _ _ _⟩
  | _, _, .int i t, s, _ => ⟨[], (fun _ z => nomatch z), by simp only [PyData.shown]; exact .of_is (ReprIs.int t (by simpa [PyData.showable] using s)) _ _ _⟩
  | _, _, .str x t, _, z => ⟨[], (fun _ z => nomatch z), by simp only [PyData.shown]; exact .of_is (ReprIs.str x t (by simpa only [PyData.shown] using z)) _ _ _⟩
  | _, _, .lst (a := a) (vs := vs) (ds := ds) g c e r, s, z => by
    have z' : (listText (PyData.shownAll ds)).length ≤ sizeLine := by simpa only [PyData.shown] using z
    obtain ⟨bs, hb, hk⟩ := r.rep (by simpa [PyData.showable] using s) fun t ht => Nat.le_trans (listText_mem_le ht) z'
    obtain ⟨as, ra⟩ := r.reads
    have rr : Reads h (.ref a) (.list ds) _ := .list g c e ra
    have na : a ∉ bs := not_mem_of_deeper rr (by simp only [PyData.depth]; omega) hb
    refine ⟨a :: bs, ReadAtMost.cons rr (by simp only [PyData.depth]; omega) hb, ?_⟩
    simp only [PyData.depth, PyData.shown]
    obtain ⟨l⟩ := vs
    match l, r, hk with
    | [], r, _ =>
      cases r
      simp only [PyData.shownAll, listText_nil]
      exact ReprK.listEmpty g c e
    | x :: l, _, hk => exact ReprK.list g c e na (by simpa using hk.length_eq) fun i y q => hk.item i y (by simpa using q)
  | _, _, .tup (a := a) (ds := ds) g c e r, s, z => by
    have z' : (tupleText (PyData.shownAll ds)).length ≤ sizeLine := by simpa only [PyData.shown] using z
    obtain ⟨bs, hb, hk⟩ := r.rep (by simpa [PyData.showable] using s) fun t ht => Nat.le_trans (tupleText_mem_le ht) z'
    obtain ⟨as, ra⟩ := r.reads
    have rr : Reads h (.ref a) (.tuple ds) _ := .tuple g c e ra
    have na : a ∉ bs := not_mem_of_deeper rr (by simp only [PyData.depth]; omega) hb
    refine ⟨a :: bs, ReadAtMost.cons rr (by simp only [PyData.depth]; omega) hb, ?_⟩
    simp only [PyData.depth, PyData.shown]
    exact ReprK.tuple g c e na hk
  | _, _, .dct (a := a) (es := es) (ps := ps) g c e m rk rv, s, z => by
    have z' : (dictText (PyData.shownKv ps)).length ≤ sizeLine := by simpa only [PyData.shown] using z
    obtain ⟨s1, s2⟩ := PyData.showableKv_split ps (by simpa [PyData.showable] using s)
    obtain ⟨b1, hb1, k1⟩ := rk.rep s1 fun t ht => kv_keys_le ps z' ht
    obtain ⟨b2, hb2, k2⟩ := rv.rep s2 fun t ht => kv_vals_le ps z' ht
    obtain ⟨as, ra⟩ := rk.reads
    obtain ⟨as2, ra2⟩ := rv.reads
    have rr : Reads h (.ref a) (.dict ps) _ := .dict g c e ra ra2
    have hb : ReadAtMost h (PyData.depthKv ps) (b1 ++ b2) := (hb1.mono (PyData.depthAll_keys_le ps)).append (hb2.mono (PyData.depthAll_vals_le ps))
    have na : a ∉ b1 ++ b2 := not_mem_of_deeper rr (by simp only [PyData.depth]; omega) hb
    refine ⟨a :: (b1 ++ b2), ReadAtMost.cons rr (by simp only [PyData.depth]; omega) hb, ?_⟩
    simp only [PyData.depth, PyData.shown, PyData.shownKv_eq]
    exact ReprK.dict g c e m na (ReprEntriesK.of_two es.toList _ _ (k1.more_le (fun b q => List.mem_append_left _ q) (PyData.depthAll_keys_le ps)) (k2.more_le (fun b q => List.mem_append_right _ q) (PyData.depthAll_vals_le ps)))
theorem RdDs.rep : ∀ {v : List Value} {d : List PyData}, RdDs h v d → PyData.showableAll d = true → (∀ t ∈ PyData.shownAll d, t.length ≤ sizeLine) → ∃ bs, ReadAtMost h (PyData.depthAll d) bs ∧ ReprAllK prog w bs h (PyData.depthAll d) v (PyData.shownAll d)
  | _, _, .nil, _, _ => ⟨[], (fun _ z => nomatch z), by simp only [PyData.shownAll]; exact .nil⟩
  | _, _, .cons (d := d) (ds := ds) r rs, s, z => by
    have s' : d.showable = true ∧ PyData.showableAll ds = true := by simpa [PyData.showableAll] using s
    obtain ⟨b1, hb1, k1⟩ := r.rep s'.1 (z _ (by simp only [PyData.shownAll]; exact List.mem_cons_self))
    obtain ⟨b2, hb2, k2⟩ := rs.rep s'.2 fun t ht => z t (by simp only [PyData.shownAll]; exact List.mem_cons_of_mem _ ht)
    refine ⟨b1 ++ b2, (hb1.mono ?_).append (hb2.mono ?_), ?_⟩
    · simp only [PyData.depthAll]
      exact Nat.le_max_left _ _
    · simp only [PyData.depthAll]
      exact Nat.le_max_right _ _
    · simp only [PyData.depthAll, PyData.shownAll]
      exact .cons ((k1.more fun b q => List.mem_append_left _ q).level_le (Nat.le_max_left _ _)) (k2.more_le (fun b q => List.mem_append_right _ q) (Nat.le_max_right _ _))
end
end
end L3
namespace L3
open PySem L2
/-! ### data read in full -/
/-- a list of the store, read as a value -/
def res (M : Mp) : D → D
  | .tok a => match M a with
    | some (.lst ds) => .lst ds
    | some (.dic _ kd) => .dct (kd.map (·.1)) (kd.map (·.2))
    | _ => .tok a
  | d => d
theorem zip_fs {α β : Type} : ∀ l : List (α × β), (l.map (·.1)).zip (l.map (·.2)) = l
  | [] => rfl
  | p :: l => by rw [List.map_cons, List.map_cons, List.zip_cons_cons, zip_fs l]
theorem res_rep {K : PySem.W.Frag} {Z : Hp} {H : Hp} {M : Mp} {v : V} : ∀ {d : D}, Sat K Z H M → Rep K (fz Z H M) v d → Rep K H v (res M d)
  | .non, _, r => r.up fz_sub
  | .bl _, _, r => r.up fz_sub
  | .int _, _, r => r.up fz_sub
  | .str _, _, r => r.up fz_sub
  | .ty _, _, r => r.up fz_sub
  | .tup _, _, r => r.up fz_sub
  | .lst _, _, r => r.up fz_sub
  | .exc _ _ _ _ _, _, r => r.up fz_sub
  | .tpl _, _, r => r.up fz_sub
  | .dct _ _, _, r => r.up fz_sub
  | .tok a, S, r => by
    cases r
    show Rep K H (.ref a) (match M a with | some (.lst ds) => .lst ds | some (.dic _ kd) => .dct (kd.map (·.1)) (kd.map (·.2)) | _ => .tok a)
    cases q : M a with
    | none => exact .tok a
    | some c =>
      cases c with
      | lst ds =>
        obtain ⟨vs, e, rl⟩ := S.cell a _ q
        exact .lst (.inl (.inl e)) (rl.up fz_sub)
      | aux => exact .tok a
      | drw _ => exact .tok a
      | tab _ _ => exact .tok a
      | box => exact .tok a
      | err _ _ => exact .tok a
      | ins _ _ => exact .tok a
      | dic lk kd =>
        obtain ⟨kv, u, e, l, e1, e2⟩ := S.cell a _ q
        refine .dct (vs := kv.map (·.2)) ?_ (by rw [← e1, List.length_map, List.length_map]) (e2.up fz_sub)
        rw [← e1, zip_fs]
        cases lk with
        | none =>
          cases l
          exact .inl e
        | some o =>
          rw [l.2] at e
          exact .inr ⟨_, e⟩
/-- the items of a list, a tuple -/
def seqD (M : Mp) : D → Option (List D)
  | .tup ds => some ds
  | .lst ds => some ds
  | .tpl ds => some ds
  | .tok a => match M a with
    | some (.lst ds) => some ds
    | _ => none
  | _ => none
theorem seq_of {K : PySem.W.Frag} {Z : Hp} {H : Hp} {M : Mp} {v : V} : ∀ {d : D} {ds : List D}, Sat K Z H M → Rep K (fz Z H M) v d → seqD M d = some ds → ∃ a vs, v = .ref a ∧ (SqL K H a vs ∨ SqT K H a vs) ∧ RepL K (fz Z H M) vs ds
  | .non, _, _, _, e => by cases e
  | .bl _, _, _, _, e => by cases e
  | .int _, _, _, _, e => by cases e
  | .str _, _, _, _, e => by cases e
  | .ty _, _, _, _, e => by cases e
  | .exc _ _ _ _ _, _, _, _, e => by cases e
  | .tpl es, ds, S, r, e => by
    obtain rfl : es = ds := Option.some.inj e
    cases r with
    | tpl hs hd ha => exact ⟨_, _, rfl, .inr (.inl (.inr ⟨_, fz_sub _ _ hs⟩)), ha⟩
  | .dct _ _, _, _, _, e => by cases e
  | .tup es, ds, S, r, e => by
    obtain rfl : es = ds := Option.some.inj e
    cases r with
    | tup hs ha => exact ⟨_, _, rfl, .inr (sqt_mono fz_sub hs), ha⟩
  | .lst es, ds, S, r, e => by
    obtain rfl : es = ds := Option.some.inj e
    cases r with
    | lst hs ha => exact ⟨_, _, rfl, .inl (fz_sub.seq hs), ha⟩
  | .tok a, ds, S, r, e => by
    cases r
    have e' : (match M a with | some (.lst ds) => some ds | _ => none) = some ds := e
    cases q : M a with
    | none =>
      rw [q] at e'
      cases e'
    | some c =>
      rw [q] at e'
      cases c with
      | lst es =>
        obtain rfl : es = ds := Option.some.inj e'
        obtain ⟨vs, e1, rl⟩ := S.cell a _ q
        exact ⟨_, _, rfl, .inl (.inl (.inl e1)), rl⟩
      | aux => cases e'
      | drw _ => cases e'
      | tab _ _ => cases e'
      | box => cases e'
      | err _ _ => cases e'
      | ins _ _ => cases e'
      | dic _ _ => cases e'
/-! ### plain data: equality, texts -/
def keyPy : Key → PyData
  | .inl i => .int i
  | .inr x => .str x
mutual
def D.py : D → PyData
  | .non => .none
  | .bl b => .bool b
  | .int i => .int i
  | .str x => .str x
  | .ty _ => .none
  | .tok _ => .none
  | .exc _ _ _ _ _ => .none
  | .tpl _ => .none
  | .dct ks ds => .dict ((ks.map keyPy).zip (pyL ds))
  | .tup ds => .tuple (pyL ds)
  | .lst ds => .list (pyL ds)
def pyL : List D → List PyData
  | [] => []
  | d :: ds => d.py :: pyL ds
end
/-- data without objects, so deep at most -/
def fit : Nat → D → Prop
  | _, .non => True
  | _, .bl _ => True
  | _, .int _ => True
  | _, .str x => PySem.PyData.strOk x = true
  | _, .ty _ => False
  | _, .tok _ => False
  | _, .exc _ _ _ _ _ => False
  | _, .tpl _ => False
  | _, .dct _ _ => False
  | 0, .tup _ => False
  | 0, .lst _ => False
  | n + 1, .tup ds => ∀ d ∈ ds, fit n d
  | n + 1, .lst ds => ∀ d ∈ ds, fit n d
mutual
theorem Rep.dp {K : PySem.W.Frag} {H : Hp} : ∀ (n : Nat) (d : D) (v : V), fit n d → Rep K H v d → Dp K H v d.py
  | _, .non, _, _, r => by cases r; exact .non
  | _, .bl b, _, _, r => by cases r; exact .bl b
  | _, .int i, _, _, r => by cases r; exact .int i
  | _, .str x, _, _, r => by cases r; exact .str x
  | _, .ty _, _, f, _ => by simp [fit] at f
  | _, .tok _, _, f, _ => by simp [fit] at f
  | _, .exc _ _ _ _ _, _, f, _ => by simp [fit] at f
  | _, .tpl _, _, f, _ => by simp [fit] at f
  | _, .dct _ _, _, f, _ => by simp [fit] at f
  | 0, .tup _, _, f, _ => by cases f
  | 0, .lst _, _, f, _ => by cases f
  | n + 1, .tup ds, _, f, r => by
    cases r with
    | tup hs ha => exact .tup hs (RepL.dp n ds _ f ha)
  | n + 1, .lst ds, _, f, r => by
    cases r with
    | lst hs ha => exact .lst hs (RepL.dp n ds _ f ha)
theorem RepL.dp {K : PySem.W.Frag} {H : Hp} : ∀ (n : Nat) (ds : List D) (vs : List V), (∀ d ∈ ds, fit n d) → RepL K H vs ds → DpAll K H vs (pyL ds)
  | _, [], _, _, r => by cases r; exact .nil
  | n, d :: ds, _, f, r => by
    cases r with
    | cons r1 r2 => exact .cons (Rep.dp n d _ (f d List.mem_cons_self) r1) (RepL.dp n ds _ (fun x hx => f x (List.mem_cons_of_mem _ hx)) r2)
end
mutual
theorem fit_lay : ∀ (n : Nat) (d : D), fit n d → d.py.canLay0 = true ∧ d.py.depth ≤ n
  | _, .non, _ => ⟨by simp [D.py, PyData.canLay0], by simp [D.py, PyData.depth]⟩
  | _, .bl b, _ => ⟨by simp [D.py, PyData.canLay0], by simp [D.py, PyData.depth]⟩
  | _, .int i, _ => ⟨by simp [D.py, PyData.canLay0], by simp [D.py, PyData.depth]⟩
  | _, .str x, f => by
    have f' : PySem.PyData.strOk x = true := by simpa [fit] using f
    exact ⟨by simp [D.py, PyData.canLay0, f'], by simp [D.py, PyData.depth]⟩
  | _, .ty _, f => by simp [fit] at f
  | _, .tok _, f => by simp [fit] at f
  | _, .exc _ _ _ _ _, f => by simp [fit] at f
  | _, .tpl _, f => by simp [fit] at f
  | _, .dct _ _, f => by simp [fit] at f
  | 0, .tup _, f => by cases f
  | 0, .lst _, f => by cases f
  | n + 1, .tup ds, f => by
    have q := fit_layL n ds f
    exact ⟨by simp [D.py, PyData.canLay0, q.1], by simp only [D.py, PyData.depth]; omega⟩
  | n + 1, .lst ds, f => by
    have q := fit_layL n ds f
    exact ⟨by simp [D.py, PyData.canLay0, q.1], by simp only [D.py, PyData.depth]; omega⟩
theorem fit_layL : ∀ (n : Nat) (ds : List D), (∀ d ∈ ds, fit n d) → PyData.canLayAll0 (pyL ds) = true ∧ PyData.depthAll (pyL ds) ≤ n
  | _, [], _ => ⟨by simp [pyL, PyData.canLayAll0], by simp [pyL, PyData.depthAll]⟩
  | n, d :: ds, f => by
    have q1 := fit_lay n d (f d List.mem_cons_self)
    have q2 := fit_layL n ds fun x hx => f x (List.mem_cons_of_mem _ hx)
    exact ⟨by simp [pyL, PyData.canLayAll0, q1.1, q2.1], by simp only [pyL, PyData.depthAll]; omega⟩
end
theorem fit_shaped {n : Nat} {d : D} (f : fit n d) (h : n ≤ 64) : SeqAt.shaped d.py = true := by
  have q := fit_lay n d f
  unfold SeqAt.shaped
  rw [q.1, Bool.true_and]
  exact decide_eq_true (by omega)
def eqD (d e : D) : Bool := PyData.eqv d.py e.py
def shown (d : D) : Str := d.py.shown
/-! how long its text is at most -/
mutual
def cost : D → Nat
  | .non => 5
  | .bl _ => 5
  | .int _ => 210
  | .str x => 10 * x.length + 4
  | .ty _ => 5
  | .tok _ => 5
  | .exc _ _ _ _ _ => 5
  | .tpl _ => 5
  | .dct ks ds => (D.py (.dct ks ds)).shown.length
  | .tup ds => costL ds + 4
  | .lst ds => costL ds + 4
def costL : List D → Nat
  | [] => 0
  | d :: ds => cost d + 2 + costL ds
end
/-- data that can be shown -/
def shw : Nat → D → Prop
  | _, .non => True
  | _, .bl _ => True
  | _, .int i => i.natAbs < 2 ^ 200
  | _, .str x => PySem.PyData.strOk x = true
  | _, .ty _ => False
  | _, .tok _ => False
  | _, .exc _ _ _ _ _ => False
  | _, .tpl _ => False
  | 0, .dct _ _ => False
  | 0, .tup _ => False
  | 0, .lst _ => False
  | n + 1, .tup ds => ∀ d ∈ ds, shw n d
  | n + 1, .lst ds => ∀ d ∈ ds, shw n d
  | n + 1, .dct ks ds => (ks.length = ds.length ∧ ∀ k ∈ ks, (keyPy k).showable = true) ∧ ∀ d ∈ ds, shw n d
end L3
namespace L3
open PySem L2
section
variable {X : Cx} {E : XK} {e a b c : Expr} {es : List Expr} {t ta tb tc te : TE} {w wa wb wc we : WE} {pos : Pos} {k : Nat}
/-! ### names, constants -/
def wVar (i : Nat) : WE := fun ρ M Q => match ρ[i]? with
  | some (some d) => Q d M
  | _ => False
theorem sim_var {K : PySem.W.Frag} (i : Nat) : SimE K (tVar i) (wVar i) := by
  intro Z ρ M σ H Q Q' r h q
  unfold wVar at h
  split at h
  · rename_i d e
    obtain ⟨v, e1, rp⟩ := r.env.2 i d e
    exact ⟨v, e1, q v d H M r.refl rp h⟩
  · exact h.elim
theorem de_var (i : Nat) {x : Str} (hN : X.N[i]? = some x := by rfl) (hv : Vis X.env.scope x := by first | exact Or.inl rfl | exact Or.inr (Or.inl rfl) | exact Or.inr (Or.inr rfl)) (hd : (x == ("__debug__" : Str)) = false := by decide)
    (hcd : (x == ("__classdict__" : Str)) = false := by decide) : DE X (.Name x pos) (tVar i) (wVar i) := ⟨pe_var hN hv hd hcd, sim_var i⟩
def wC (d : D) : WE := fun _ M Q => Q d M
theorem sim_c {K : PySem.W.Frag} {v : V} {d : D} (h : ∀ H, Rep K H v d) : SimE K (tC v) (wC d) := fun _ _ M _ H _ _ r q z => z v d H M r.refl (h _) q
theorem de_int {i j} : DE X (.Constant (.int i) j pos) (tC (.int i)) (wC (.int i)) := ⟨pe_int, sim_c fun _ => .int i⟩
theorem de_bl {i j} : DE X (.Constant (.bool i) j pos) (tC (.bl i)) (wC (.bl i)) := ⟨pe_bl, sim_c fun _ => .bl i⟩
theorem de_non {j} : DE X (.Constant .none j pos) (tC .non) (wC .non) := ⟨pe_non, sim_c fun _ => .non⟩
theorem de_str {x j} : DE X (.Constant (.str x) j pos) (tC (.str x)) (wC (.str x)) := ⟨pe_str, sim_c fun _ => .str x⟩
/-! ### two values -/
abbrev F2 := D → D → Mp → KD → Prop
def SimR (K : PySem.W.Frag) (r : R2) (f : F2) : Prop := ∀ (Z : Hp) (x y : V) (d e : D) (H : Hp) (M : Mp) (Q : KD) (Q' : VK), Sat K Z H M → Rep K (fz Z H M) x d → Rep K (fz Z H M) y e → f d e M Q → (∀ v d' H' M', Go K Z H M H' M' → Rep K (fz Z H' M') v d' → Q d' M' → Q' v H') → r x y H Q'
def wOp (f : F2) (wa wb : WE) : WE := fun ρ M Q => wa ρ M fun d M1 => wb ρ M1 fun e M2 => f d e M2 Q
theorem sim_op {K : PySem.W.Frag} {r : R2} {f : F2} (ha : SimE K ta wa) (hb : SimE K tb wb) (hr : SimR K r f) : SimE K (tOp r ta tb) (wOp f wa wb) := by
  intro Z ρ M σ H Q Q' s h q
  refine ha Z ρ M σ H _ _ s h fun x d H1 M1 g1 r1 q1 => ?_
  refine hb Z ρ M1 σ H1 _ _ (s.go g1) q1 fun y e H2 M2 g2 r2 q2 => ?_
  exact hr Z x y d e H2 M2 Q Q' g2.sat (r1.up g2.ex) r2 q2 fun v d' H3 M3 g3 r3 q3 => q v d' H3 M3 ((g1.trans g2).trans g3) r3 q3
theorem de_op {op : Operator} {r : R2} {f : F2} (ho : OpR X (binaryOp op) r) (hs : SimR X.K r f) (ha : DE X a ta wa) (hb : DE X b tb wb) : DE X (.BinOp a op b pos) (tOp r ta tb) (wOp f wa wb) := ⟨pe_op ho ha.pe hb.pe, sim_op ha.sm hb.sm hs⟩
theorem de_cmp {op : CmpOp} {r : R2} {f : F2} (ho : OpR X (compareOp op) r) (hs : SimR X.K r f) (ha : DE X a ta wa) (hb : DE X b tb wb) (hm : behindInMarks op b = false := by first | exact nomark _ (by decide) (by decide) | rfl) : DE X (.Compare a [op] [b] pos) (tOp r ta tb) (wOp f wa wb) :=
  ⟨pe_cmpR ho ha.pe hb.pe hm, sim_op ha.sm hb.sm hs⟩
/-- a value's answer as a test -/
def wB (w : WE) : WT := fun ρ M Q => w ρ M fun d M1 => match d with
  | .bl x => Q x M1
  | _ => False
theorem sim_test {K : PySem.W.Frag} (ha : SimE K t w) : SimT K (tTest t) (wB w) := by
  intro Z ρ M σ H Q Q' s h q
  refine ha Z ρ M σ H _ _ s h fun x d H1 M1 g1 r1 q1 => ?_
  cases d with
  | bl y =>
    cases r1
    exact ⟨y, rfl, q y H1 M1 g1 q1⟩
  | _ => exact q1.elim
theorem dt_cmp {op : CmpOp} {r : R2} {f : F2} (ho : OpR X (compareOp op) r) (hs : SimR X.K r f) (ha : DE X a ta wa) (hb : DE X b tb wb) (hm : behindInMarks op b = false := by first | exact nomark _ (by decide) (by decide) | rfl) : DT X (.Compare a [op] [b] pos) (tTest (tOp r ta tb)) (wB (wOp f wa wb)) :=
  ⟨pt_cmpR ho ha.pe hb.pe hm, sim_test (sim_op ha.sm hb.sm hs)⟩
/-- a op b op' c -/
def wChain (f f' : F2) (wa wb wc : WE) : WE := fun ρ M Q => wa ρ M fun d M1 => wb ρ M1 fun e M2 => f d e M2 fun z M3 => match z with
  | .bl true => wc ρ M3 fun g M4 => f' e g M4 Q
  | .bl false => Q (.bl false) M3
  | _ => False
/-! ### arithmetic -/
def fI (C : Int → Int → Prop) (g : Int → Int → D) : F2 := fun d e M Q => match d, e with
  | .int i, .int j => C i j ∧ Q (g i j) M
  | _, _ => False
def fI0 (g : Int → Int → D) : F2 := fun d e M Q => match d, e with
  | .int i, .int j => Q (g i j) M
  | _, _ => False
theorem sim_I {K : PySem.W.Frag} {C : Int → Int → Prop} {g : Int → Int → V} {g' : Int → Int → D} (h : ∀ i j H, Rep K H (g i j) (g' i j)) : SimR K (rI C g) (fI C g') := by
  intro Z x y d e H M Q Q' S r1 r2 f q
  cases d <;> cases e <;> first | exact f.elim | skip
  cases r1
  cases r2
  exact ⟨_, _, rfl, rfl, f.1, q _ _ H M (Go.refl S) (h _ _ _) f.2⟩
theorem sim_I0 {K : PySem.W.Frag} {g : Int → Int → V} {g' : Int → Int → D} (h : ∀ i j H, Rep K H (g i j) (g' i j)) : SimR K (rI0 g) (fI0 g') := by
  intro Z x y d e H M Q Q' S r1 r2 f q
  cases d <;> cases e <;> first | exact f.elim | skip
  cases r1
  cases r2
  exact ⟨_, _, rfl, rfl, q _ _ H M (Go.refl S) (h _ _ _) f⟩
def addD : F2 := fun d e M Q => match d, e with
  | .int i, .int j => Q (.int (i + j)) M
  | .str i, .str j => i.length + j.length ≤ sizeLine ∧ Q (.str (i ++ j)) M
  | .tup i, .tup j => i.length + j.length ≤ sizeLine ∧ Q (.tup (i ++ j)) M
  | d, e => ∃ i j, (∃ a, d = .tok a ∨ d = .lst i) ∧ (∃ a, e = .tok a ∨ e = .lst j) ∧ seqD M d = some i ∧ seqD M e = some j ∧ i.length + j.length ≤ sizeLine ∧ Q (.lst (i ++ j)) M
theorem lst_of {K : PySem.W.Frag} {Z : Hp} {H : Hp} {M : Mp} {v : V} {d : D} {ds : List D} (S : Sat K Z H M) (r : Rep K (fz Z H M) v d) (h : ∃ a, d = .tok a ∨ d = .lst ds) (e : seqD M d = some ds) : ∃ a vs, v = .ref a ∧ SqL K H a vs ∧ RepL K (fz Z H M) vs ds := by
  obtain ⟨a, h⟩ := h
  rcases h with rfl | rfl
  · cases r
    have e' : (match M a with | some (.lst ds) => some ds | _ => none) = some ds := e
    cases q : M a with
    | none =>
      rw [q] at e'
      cases e'
    | some c =>
      rw [q] at e'
      cases c with
      | lst es =>
        obtain rfl : es = ds := Option.some.inj e'
        obtain ⟨vs, e1, rl⟩ := S.cell a _ q
        exact ⟨_, _, rfl, .inl (.inl e1), rl⟩
      | aux => cases e'
      | drw _ => cases e'
      | tab _ _ => cases e'
      | box => cases e'
      | err _ _ => cases e'
      | ins _ _ => cases e'
      | dic _ _ => cases e'
  · cases r with
    | lst hs ha => exact ⟨_, _, rfl, fz_sub.seq hs, ha⟩
/-- list + list -/
def rCatL (K : PySem.W.Frag) : R2 := fun x y H Q => ∃ l b xs zs, x = .ref l ∧ y = .ref b ∧ SqL K H l xs ∧ SqL K H b zs ∧ xs.length + zs.length ≤ sizeLine ∧ ∀ p, H p = none → Q (.ref p) (upd H p (.lst (xs ++ zs)))
theorem op_catL : OpR X (binaryOp .Add) (rCatL X.K) := by
  intro pins s σ H x y v u Q I rx ry h
  obtain ⟨l, b, xs, zs, rfl, rfl, h1, h2, hz, q⟩ := h
  cases rx
  cases ry
  obtain ⟨its, rv, p1, z1⟩ := I.list h1
  obtain ⟨its2, rv2, p2, z2⟩ := I.list h2
  have l1 := rv.length
  have l2 := rv2.length
  obtain ⟨⟨cl1, dd1, da1, sl1⟩, n1, ho1, hc1, hx1, hd1⟩ := p1
  obtain ⟨⟨cl2, dd2, da2, sl2⟩, n2, ho2, hc2, hx2, hd2⟩ := p2
  simp only at hc1 hd1 hc2 hd2
  subst hc1 hd1 hc2 hd2
  have ea : its.toArray ++ its2.toArray = (its ++ its2).toArray := by simp
  refine PySem.concat_meets ⟨_, ho1, rfl⟩ ⟨_, ho2, rfl⟩ PySem.noFill_list_add PySem.seq_list_add PySem.F.slot_list_add PySem.F.entry_list_add (PySem.F.args_list_add_2 _ _) (PyProof.Rows.list_addW l b its.toArray its2.toArray n1 n2 dd1 dd2 sl1 sl2 (by rw [List.size_toArray, List.size_toArray]; omega)) ⟨ho1, ho2, ?_⟩
  rw [ea]
  exact ⟨.ref _, _, I.lnew (t' := s.toks) (rv.append rv2) (by rw [List.length_append]; omega), rfl, q _ I.fresh⟩
theorem sim_cat {K : PySem.W.Frag} {Z : Hp} : ∀ (x y : V) (d e : D) (H : Hp) (M : Mp) (Q : KD) (Q' : VK) (i j : List D), Sat K Z H M → Rep K (fz Z H M) x d → Rep K (fz Z H M) y e → (∃ a, d = .tok a ∨ d = .lst i) → (∃ a, e = .tok a ∨ e = .lst j) → seqD M d = some i → seqD M e = some j → i.length + j.length ≤ sizeLine → Q (.lst (i ++ j)) M →
    (∀ v d' H' M', Go K Z H M H' M' → Rep K (fz Z H' M') v d' → Q d' M' → Q' v H') → rCatL K x y H Q' := by
  intro x y d e H M Q Q' i j S r1 r2 h1 h2 s1 s2 l q z
  obtain ⟨p, vs, rfl, hp, rl⟩ := lst_of S r1 h1 s1
  obtain ⟨p', ws, rfl, hp', rl'⟩ := lst_of S r2 h2 s2
  refine ⟨p, p', vs, ws, rfl, rfl, hp, hp', by rw [rl.len, rl'.len]; exact l, fun o ho => ?_⟩
  obtain ⟨g, n⟩ := Go.laid (o := .lst (vs ++ ws)) S ho
  exact z _ _ _ _ g (.lst (.inl (.inl n)) ((rl.app rl').up g.ex)) q
def rAddA (K : PySem.W.Frag) : R2 := fun x y H Q => rI0 (fun i j => .int (i + j)) x y H Q ∨ (∃ i j, x = .str i ∧ y = .str j ∧ i.length + j.length ≤ sizeLine ∧ Q (.str (i ++ j)) H) ∨ rCatL K x y H Q ∨ rCatA K x y H Q
theorem op_addA : OpR X (binaryOp .Add) (rAddA X.K) := op_add.or (op_add_str.or (op_catL.or op_catA))
theorem sim_addA {K : PySem.W.Frag} : SimR K (rAddA K) addD := by
  intro Z x y d e H M Q Q' S r1 r2 f q
  have viaL : (∃ i j, (∃ a, d = .tok a ∨ d = .lst i) ∧ (∃ a, e = .tok a ∨ e = .lst j) ∧ seqD M d = some i ∧ seqD M e = some j ∧ i.length + j.length ≤ sizeLine ∧ Q (.lst (i ++ j)) M) → rAddA K x y H Q' := fun ⟨i, j, h1, h2, s1, s2, l, z⟩ =>
    .inr (.inr (.inl (sim_cat x y d e H M Q Q' i j S r1 r2 h1 h2 s1 s2 l z q)))
  unfold addD at f
  split at f
  · cases r1
    cases r2
    exact .inl ⟨_, _, rfl, rfl, q _ _ H M (Go.refl S) (.int _) f⟩
  · cases r1
    cases r2
    exact .inr (.inl ⟨_, _, rfl, rfl, f.1, q _ _ H M (Go.refl S) (.str _) f.2⟩)
  · rename_i i j
    cases r1 with
    | @tup p vs _ h1 l1 =>
      cases r2 with
      | @tup p' ws _ h2 l2 =>
        refine .inr (.inr (.inr ⟨p, p', vs, ws, rfl, rfl, sqt_mono fz_sub h1, sqt_mono fz_sub h2, by rw [l1.len, l2.len]; exact f.1, fun en => ?_, fun _ en => ?_, fun _ _ o ho => ?_⟩))
        · subst en
          cases l1
          exact q _ _ H M (Go.refl S) (.tup h2 l2) f.2
        · subst en
          cases l2
          have z := f.2
          rw [List.append_nil] at z
          exact q _ _ H M (Go.refl S) (.tup h1 l1) z
        · obtain ⟨g, n⟩ := Go.laid (o := .tup (vs ++ ws)) S ho
          exact q _ _ _ _ g (.tup (.inl (.inl n)) ((l1.app l2).up g.ex)) f.2
  · exact viaL f
theorem de_add (ha : DE X a ta wa) (hb : DE X b tb wb) : DE X (.BinOp a .Add b pos) (tOp (rAddA X.K) ta tb) (wOp addD wa wb) := de_op op_addA sim_addA ha hb
/-- products: one is not too great, or both together -/
def CM (i j : Int) : Prop := CMul i j ∨ CMulW i j
theorem op_mulM {X : Cx} : OpR X (binaryOp .Mult) (rI CM fun i j => .int (i * j)) := fun pins s σ H x y v u Q I r1 r2 ⟨i, j, e1, e2, c, q⟩ => c.elim (fun c => op_mul pins s σ H x y v u Q I r1 r2 ⟨i, j, e1, e2, c, q⟩) fun c => op_mulW pins s σ H x y v u Q I r1 r2 ⟨i, j, e1, e2, c, q⟩
theorem de_mul (ha : DE X a ta wa) (hb : DE X b tb wb) : DE X (.BinOp a .Mult b pos) (tOp (rI CM fun i j => .int (i * j)) ta tb) (wOp (fI CM fun i j => .int (i * j)) wa wb) := de_op op_mulM (sim_I fun _ _ _ => .int _) ha hb
theorem de_fdiv (ha : DE X a ta wa) (hb : DE X b tb wb) : DE X (.BinOp a .FloorDiv b pos) (tOp (rI CDivW fun i j => .int (i / j)) ta tb) (wOp (fI CDivW fun i j => .int (i / j)) wa wb) := de_op op_fdivW (sim_I fun _ _ _ => .int _) ha hb
theorem de_mod (ha : DE X a ta wa) (hb : DE X b tb wb) : DE X (.BinOp a .Mod b pos) (tOp (rI (fun _ j => 0 < j) fun i j => .int (i % j)) ta tb) (wOp (fI (fun _ j => 0 < j) fun i j => .int (i % j)) wa wb) := de_op op_mod (sim_I fun _ _ _ => .int _) ha hb
theorem de_pow (ha : DE X a ta wa) (hb : DE X b tb wb) : DE X (.BinOp a .Pow b pos) (tOp (rI CPow fun i j => .int (i ^ j.toNat)) ta tb) (wOp (fI CPow fun i j => .int (i ^ j.toNat)) wa wb) := de_op op_pow (sim_I fun _ _ _ => .int _) ha hb
def wNeg (wa : WE) : WE := fun ρ M Q => wa ρ M fun d M1 => match d with
  | .int i => Q (.int (-i)) M1
  | _ => False
theorem de_neg (ha : DE X a ta wa) : DE X (.UnaryOp .USub a pos) (tUn (rU fun i => .int (-i)) ta) (wNeg wa) := by
  refine ⟨pe_un un_neg ha.pe, fun Z ρ M σ H Q Q' s h q => ?_⟩
  refine ha.sm Z ρ M σ H _ _ s h fun x d H1 M1 g1 r1 q1 => ?_
  cases d with
  | int i =>
    cases r1
    exact ⟨i, rfl, q _ _ H1 M1 g1 (.int _) q1⟩
  | _ => exact q1.elim
/-! ### comparisons -/
def eqD2 (neg : Bool) : F2 := fun d e M Q => (∃ n, n ≤ 60 ∧ fit n (res M d) ∧ fit n (res M e)) ∧ Q (.bl (if neg then !eqD (res M d) (res M e) else eqD (res M d) (res M e))) M
theorem sim_eq {K : PySem.W.Frag} : SimR K (rEqD K) (eqD2 false) := by
  intro Z x y d e H M Q Q' S r1 r2 ⟨⟨n, hn, f1, f2⟩, f⟩ q
  exact ⟨_, _, Rep.dp n _ _ f1 (res_rep S r1), Rep.dp n _ _ f2 (res_rep S r2), fit_shaped f1 (by omega), fit_shaped f2 (by omega), q _ _ H M (Go.refl S) (.bl _) f⟩
theorem sim_ne {K : PySem.W.Frag} : SimR K (rNeD K) (eqD2 true) := by
  intro Z x y d e H M Q Q' S r1 r2 ⟨⟨n, hn, f1, f2⟩, f⟩ q
  exact ⟨_, _, Rep.dp n _ _ f1 (res_rep S r1), Rep.dp n _ _ f2 (res_rep S r2), fit_shaped f1 (by omega), fit_shaped f2 (by omega), q _ _ H M (Go.refl S) (.bl _) f⟩
theorem op_eqG (hr : Room k X.A) : OpR X (compareOp .Eq) (rEqD X.K) := op_eqD hr.units
theorem op_neG (hr : Room k X.A) : OpR X (compareOp .NotEq) (rNeD X.K) := op_neD hr.units
abbrev fLt : F2 := fI0 fun i j => .bl (decide (i < j))
abbrev fLe : F2 := fI0 fun i j => .bl (decide (i ≤ j))
abbrev fGt : F2 := fI0 fun i j => .bl (decide (j < i))
abbrev fGe : F2 := fI0 fun i j => .bl (decide (j ≤ i))
theorem sim_lt {K : PySem.W.Frag} : SimR K (rI0 fun i j => .bl (decide (i < j))) fLt := sim_I0 fun _ _ _ => .bl _
theorem sim_gt {K : PySem.W.Frag} : SimR K (rI0 fun i j => .bl (decide (j < i))) fGt := sim_I0 fun _ _ _ => .bl _
theorem sim_ge {K : PySem.W.Frag} : SimR K (rI0 fun i j => .bl (decide (j ≤ i))) fGe := sim_I0 fun _ _ _ => .bl _
def fIsN (neg : Bool) : F2 := fun d e M Q => match d, e with
  | .non, .non => Q (.bl (!neg)) M
  | _, .non => Q (.bl neg) M
  | _, _ => False
theorem rep_non {K : PySem.W.Frag} {H : Hp} {x : V} {d : D} (r : Rep K H x d) (h : d ≠ .non) : x ≠ .non := fun z => by
  subst z
  cases r
  exact h rfl
theorem sim_isN {K : PySem.W.Frag} : SimR K (fun x y H Q => y = .non ∧ Q (.bl (decide (x = .non))) H) (fIsN false) := by
  intro Z x y d e H M Q Q' S r1 r2 f q
  unfold fIsN at f
  split at f
  · cases r1
    cases r2
    exact ⟨rfl, q _ _ H M (Go.refl S) (.bl _) f⟩
  · rename_i h
    cases r2
    rw [decide_eq_false (rep_non r1 h)]
    exact ⟨rfl, q _ _ H M (Go.refl S) (.bl _) f⟩
  · exact f.elim
theorem sim_notN {K : PySem.W.Frag} : SimR K (fun x y H Q => y = .non ∧ Q (.bl (!decide (x = .non))) H) (fIsN true) := by
  intro Z x y d e H M Q Q' S r1 r2 f q
  unfold fIsN at f
  split at f
  · cases r1
    cases r2
    exact ⟨rfl, q _ _ H M (Go.refl S) (.bl _) f⟩
  · rename_i h
    cases r2
    rw [decide_eq_false (rep_non r1 h)]
    exact ⟨rfl, q _ _ H M (Go.refl S) (.bl _) f⟩
  · exact f.elim
/-! ### tests -/
/-- a bool's own value as a test: a name, a call, a subscript .. -/
theorem dt_val (h : DE X e t w) (he : ∀ whole, isTrue e X.env whole = (do let v ← whole; standAt e.pos; holding [v] (truthy v)) := by intro _; rfl) : DT X e (tB t) (wB w) := ⟨pt_val h.pe he, sim_test h.sm⟩
def wNot (w : WT) : WT := fun ρ M Q => w ρ M fun b M1 => Q (!b) M1
def wAnd (w u : WT) : WT := fun ρ M Q => w ρ M fun b M1 => if b = true then u ρ M1 Q else Q false M1
def wOr (w u : WT) : WT := fun ρ M Q => w ρ M fun b M1 => if b = true then Q true M1 else u ρ M1 Q
variable {tA tB' : TT} {wA wB' : WT} {rest : List Expr}
theorem dt_not (ha : DT X a tA wA) : DT X (.UnaryOp .Not a pos) (tNot tA) (wNot wA) := ⟨pt_not ha.pe, fun Z ρ M σ H Q Q' s h q => ha.sm Z ρ M σ H _ _ s h fun b H1 M1 g z => q _ H1 M1 g z⟩
theorem sim_and {K : PySem.W.Frag} (ha : SimT K tA wA) (hb : SimT K tB' wB') : SimT K (tAnd tA tB') (wAnd wA wB') := by
  intro Z ρ M σ H Q Q' s h q
  refine ha Z ρ M σ H _ _ s h fun b H1 M1 g z => ?_
  cases b with
  | true => exact hb Z ρ M1 σ H1 _ _ (s.go g) z fun b' H2 M2 g2 z2 => q b' H2 M2 (g.trans g2) z2
  | false => exact q _ H1 M1 g z
theorem sim_or {K : PySem.W.Frag} (ha : SimT K tA wA) (hb : SimT K tB' wB') : SimT K (tOr tA tB') (wOr wA wB') := by
  intro Z ρ M σ H Q Q' s h q
  refine ha Z ρ M σ H _ _ s h fun b H1 M1 g z => ?_
  cases b with
  | false => exact hb Z ρ M1 σ H1 _ _ (s.go g) z fun b' H2 M2 g2 z2 => q b' H2 M2 (g.trans g2) z2
  | true => exact q _ H1 M1 g z
theorem dw_and1 (ha : DT X a tA wA) : DW X (.BoolOp .And [a] pos) tA wA := ⟨pw_and1 ha.pe, ha.sm⟩
theorem dw_or1 (ha : DT X a tA wA) : DW X (.BoolOp .Or [a] pos) tA wA := ⟨pw_or1 ha.pe, ha.sm⟩
theorem dw_and (ha : DT X a tA wA) (hb : DW X (.BoolOp .And (b :: rest) pos) tB' wB') : DW X (.BoolOp .And (a :: b :: rest) pos) (tAnd tA tB') (wAnd wA wB') := ⟨pw_and ha.pe hb.pe, sim_and ha.sm hb.sm⟩
theorem dw_or (ha : DT X a tA wA) (hb : DW X (.BoolOp .Or (b :: rest) pos) tB' wB') : DW X (.BoolOp .Or (a :: b :: rest) pos) (tOr tA tB') (wOr wA wB') := ⟨pw_or ha.pe hb.pe, sim_or ha.sm hb.sm⟩
theorem DW.dt {t : TT} {w : WT} (h : DW X e t w) : DT X e t w := ⟨h.pe.pt, h.sm⟩
/-! .. as values -/
def wAndV (wa wb : WE) : WE := fun ρ M Q => wa ρ M fun d M1 => match d with
  | .bl true => wb ρ M1 Q
  | .bl false => Q (.bl false) M1
  | _ => False
def wOrV (wa wb : WE) : WE := fun ρ M Q => wa ρ M fun d M1 => match d with
  | .bl false => wb ρ M1 Q
  | .bl true => Q (.bl true) M1
  | _ => False
def wNotV (wa : WE) : WE := fun ρ M Q => wa ρ M fun d M1 => match d with
  | .bl b => Q (.bl (!b)) M1
  | _ => False
theorem de_one {op} (h : DE X a t w) : DE X (.BoolOp op [a] pos) t w := ⟨pe_one h.pe, h.sm⟩
theorem de_and (ha : DE X a ta wa) (hb : DE X (.BoolOp .And (b :: rest) pos) tb wb) : DE X (.BoolOp .And (a :: b :: rest) pos) (tAndV ta tb) (wAndV wa wb) := by
  refine ⟨pe_and ha.pe hb.pe, fun Z ρ M σ H Q Q' s h q => ?_⟩
  refine ha.sm Z ρ M σ H _ _ s h fun x d H1 M1 g1 r1 q1 => ?_
  cases d with
  | bl y =>
    cases r1
    cases y with
    | true => exact ⟨true, rfl, hb.sm Z ρ M1 σ H1 _ _ (s.go g1) q1 fun v d2 H2 M2 g2 r2 q2 => q v d2 H2 M2 (g1.trans g2) r2 q2⟩
    | false => exact ⟨false, rfl, q _ _ H1 M1 g1 (.bl _) q1⟩
  | _ => exact q1.elim
def wIf (c : WT) (wa wb : WE) : WE := fun ρ M Q => c ρ M fun b M1 => if b = true then wa ρ M1 Q else wb ρ M1 Q
theorem de_if {c : Expr} (hc : DT X c tA wA) (ha : DE X a ta wa) (hb : DE X b tb wb) : DE X (.IfExp c a b pos) (tIf tA ta tb) (wIf wA wa wb) := by
  refine ⟨pe_ifExp hc.pe ha.pe hb.pe, fun Z ρ M σ H Q Q' s h q => ?_⟩
  refine hc.sm Z ρ M σ H _ _ s h fun y H1 M1 g1 q1 => ?_
  cases y with
  | true => exact ha.sm Z ρ M1 σ H1 _ _ (s.go g1) q1 fun v d2 H2 M2 g2 r2 q2 => q v d2 H2 M2 (g1.trans g2) r2 q2
  | false => exact hb.sm Z ρ M1 σ H1 _ _ (s.go g1) q1 fun v d2 H2 M2 g2 r2 q2 => q v d2 H2 M2 (g1.trans g2) r2 q2
/-! ### arguments, displays, calls -/
def wNil : WA := fun _ M Q => Q [] M
def wCons (w : WE) (r : WA) : WA := fun ρ M Q => w ρ M fun d M1 => r ρ M1 fun ds M2 => Q (d :: ds) M2
variable {tr : TA} {wr : WA}
theorem sim_nil {K : PySem.W.Frag} : SimA K tNil wNil := fun Z ρ M σ H Q Q' s h q => q [] [] H M s.refl .nil h
theorem sim_cons {K : PySem.W.Frag} (ha : SimE K te we) (hr : SimA K tr wr) : SimA K (tCons te tr) (wCons we wr) := by
  intro Z ρ M σ H Q Q' s h q
  refine ha Z ρ M σ H _ _ s h fun x d H1 M1 g1 r1 q1 => ?_
  refine hr Z ρ M1 σ H1 _ _ (s.go g1) q1 fun xs ds H2 M2 g2 r2 q2 => ?_
  exact q (x :: xs) (d :: ds) H2 M2 (g1.trans g2) (.cons (r1.up g2.ex) r2) q2
theorem da_nil : DA X [] tNil wNil := ⟨pa_nil, sim_nil⟩
theorem da_cons (ha : DE X e te we) (hr : DA X es tr wr) (hs : starEach (e :: es) X.env = (false, eval e X.env) :: starEach es X.env := by rfl) : DA X (e :: es) (tCons te tr) (wCons we wr) := ⟨pa_cons ha.pe hr.pe hs, sim_cons ha.sm hr.sm⟩
def wTup (r : WA) : WE := fun ρ M Q => r ρ M fun ds M1 => ds.length ≤ sizeLine ∧ Q (.tup ds) M1
def wLst (r : WA) : WE := fun ρ M Q => r ρ M fun ds M1 => ds.length ≤ sizeLine ∧ Q (.lst ds) M1
theorem de_tup {x1} (h : DA X es tr wr) : DE X (.Tuple es x1 pos) (tTup tr) (wTup wr) := by
  refine ⟨pe_tup h.pe, fun Z ρ M σ H Q Q' s hh q => ?_⟩
  refine h.sm Z ρ M σ H _ _ s hh fun xs ds H1 M1 g1 r1 ⟨l, q1⟩ => ⟨by rw [r1.len]; exact l, fun p hp => ?_⟩
  obtain ⟨g, n⟩ := Go.laid (o := .tup xs) g1.sat hp
  exact q _ _ _ _ (g1.trans g) (.tup (.inl (.inl n)) (r1.up g.ex)) q1
theorem de_lst (h : DA X es tr wr) : DE X (.List es pos) (tLst tr) (wLst wr) := by
  refine ⟨pe_lst h.pe, fun Z ρ M σ H Q Q' s hh q => ?_⟩
  refine h.sm Z ρ M σ H _ _ s hh fun xs ds H1 M1 g1 r1 ⟨l, q1⟩ => ⟨by rw [r1.len]; exact l, fun p hp => ?_⟩
  obtain ⟨g, n⟩ := Go.laid (o := .lst xs) g1.sat hp
  exact q _ _ _ _ (g1.trans g) (.lst (.inl (.inl n)) (r1.up g.ex)) q1
/-- a list that is to change -/
def wLstM (r : WA) : WE := fun ρ M Q => r ρ M fun ds M1 => ds.length ≤ sizeLine ∧ ∀ p, M1 p = none → Q (.tok p) (setM M1 p (.lst ds))
theorem de_lstM (h : DA X es tr wr) : DE X (.List es pos) (tLst tr) (wLstM wr) := by
  refine ⟨pe_lst h.pe, fun Z ρ M σ H Q Q' s hh q => ?_⟩
  refine h.sm Z ρ M σ H _ _ s hh fun xs ds H1 M1 g1 r1 ⟨l, q1⟩ => ⟨by rw [r1.len]; exact l, fun p hp => ?_⟩
  exact q _ _ _ _ (g1.trans (Go.putL g1.sat (.inl hp) r1)) (.tok p) (q1 p (g1.sat.free hp))
/-- f(e, ..) by its contract -/
def wCall (F : Fs) (r : WA) : WE := fun ρ M Q => r ρ M fun ds M1 => F ds M1 Q fun _ _ _ => False
theorem sim_call {K : PySem.W.Frag} {F : Fs} (ha : SimA K tr wr) : SimE K (tCallG (lift K F) [] E0 tr) (wCall F wr) := by
  intro Z ρ M σ H Q Q' s h q
  refine ha Z ρ M σ H _ _ s h fun xs ds H1 M1 g1 r1 q1 => ?_
  show lift K F (xs ++ []) H1 Q' E0
  rw [List.append_nil]
  exact ⟨Z, ds, M1, Q, _, g1.sat, r1, q1, fun v d H2 M2 g2 r2 q2 => q v d H2 M2 (g1.trans g2) r2 q2, fun _ _ _ _ _ _ _ _ _ _ _ _ z => z.elim⟩
variable {f : Addr} {fd : FuncData} {ps : List Str} {F : Fs} {x : Str} {p : Pos}
theorem de_call (G : FnG X.prog X.w X.K X.mg X.base k f fd ps (lift X.K F)) (hr : Room k X.A) (gd : X.A.guards = some []) (hm : X.mg x = some (.ref f)) (hk : PySem.W.keepIn X.K (.ref f) = true) (hb : Binds X.K fd ps [])
    (ha : DA X (e :: es) tr wr) (hg : Gl X x := by rfl) (hdb : (x == ("__debug__" : Str)) = false := by decide) (he : starEach (e :: es) X.env = (false, eval e X.env) :: starEach es X.env := by rfl) (hpl : (backTo pos (starEach es X.env)).any (·.1) = false := by rfl) :
    DE X (.Call (.Name x p) (e :: es) [] pos) (tCallG (lift X.K F) [] E0 tr) (wCall F wr) := ⟨pe_callG G hr gd hg hm hk hb .nil passL ha.pe hdb he hpl, sim_call ha.sm⟩
end
end L3
namespace L3
open PySem L2
section
variable {X : Cx} {E : XK} {e a b c : Expr} {es : List Expr} {t ta tb tc te : TE} {w wa wb wc we : WE} {pos : Pos} {k : Nat} {tr : TA} {wr : WA}
/-! ### keywords -/
structure DK (X : Cx) (kws : List Keyword) (t : TA) (w : WA) : Prop where
  pe : PK X kws t
  sm : SimA X.K t w
variable {nm : Option Str} {kpos : Pos} {kws : List Keyword} {tk : TA} {wk : WA}
theorem dk_nil : DK X [] tNil wNil := ⟨pk_nil, sim_nil⟩
theorem dk_cons (ha : DE X e te we) (hr : DK X kws tk wk) : DK X (⟨nm, e, kpos⟩ :: kws) (tCons te tk) (wCons we wk) := ⟨pk_cons ha.pe hr.pe, sim_cons ha.sm hr.sm⟩
def permD (idx : List Nat) (ds es : List D) : List D := idx.map fun i => (ds ++ es).getD i .non
theorem rep_getD {K : PySem.W.Frag} {H : Hp} : ∀ {vs : List V} {ds : List D} (i : Nat), RepL K H vs ds → Rep K H (vs.getD i .non) (ds.getD i .non)
  | _, _, _, .nil => .non
  | _, _, 0, .cons r _ => r
  | _, _, i + 1, .cons _ q => rep_getD i q
theorem perm_repL {K : PySem.W.Frag} {H : Hp} (idx : List Nat) {vs zs : List V} {ds es : List D} (r : RepL K H vs ds) (q : RepL K H zs es) : RepL K H (perm idx vs zs) (permD idx ds es) := by
  have ra := r.app q
  unfold perm permD
  induction idx with
  | nil => exact .nil
  | cons i is ih => exact .cons (rep_getD i ra) ih
def wCallK (n m : Nat) (idx : List Nat) (F : Fs) (r rk : WA) : WE := fun ρ M Q => r ρ M fun ds M1 => rk ρ M1 fun es M2 => ds.length = n ∧ es.length = m ∧ F (permD idx ds es) M2 Q fun _ _ _ => False
variable {f : Addr} {fd : FuncData} {ps : List Str} {F : Fs} {x : Str} {p : Pos}
/-! ### places of lists, tuples, texts -/
def ixD : F2 := fun d e M Q => match d, e with
  | .str z, .int i => z.length ≤ sizeLine ∧ ∃ c, atI z.cps.toList i = some c ∧ Q (.str ⟨#[c]⟩) M
  | d, .int i => ∃ ds x, seqD M d = some ds ∧ atI ds i = some x ∧ Q x M
  | _, _ => False
theorem atI_len {α β : Type} {xs : List α} {ys : List β} {i : Int} {x : α} (h : atI xs i = some x) (l : xs.length = ys.length) : ∃ (y : β) (j : Nat), atI ys i = some y ∧ ys[j]? = some y ∧ xs[j]? = some x := by
  unfold atI at h ⊢
  rw [l] at h
  cases q : ixN ys.length i with
  | none =>
    rw [q] at h
    cases h
  | some j =>
    rw [q] at h
    have h' : xs[j]? = some x := h
    have hj : j < ys.length := by
      rw [← l]
      exact (List.getElem?_eq_some_iff.mp h').1
    exact ⟨ys[j], j, List.getElem?_eq_getElem hj, List.getElem?_eq_getElem hj, h'⟩
theorem sim_ix {K : PySem.W.Frag} : SimR K (rIx K) ixD := by
  intro Z x y d e H M Q Q' S r1 r2 f q
  unfold ixD at f
  split at f
  · cases r1
    cases r2
    obtain ⟨l, c, ha, z⟩ := f
    exact .inr (.inr ⟨_, _, c, rfl, rfl, l, ha, q _ _ H M (Go.refl S) (.str _) z⟩)
  · cases r2
    obtain ⟨ds, x', hs, ha, z⟩ := f
    obtain ⟨a, vs, rfl, hv, rl⟩ := seq_of S r1 hs
    obtain ⟨v, j, a1, a2, a3⟩ := atI_len ha rl.len.symm
    obtain ⟨v', b1, b2⟩ := rl.get a3
    rw [a2] at b1
    cases b1
    rcases hv with hv | hv
    · exact .inl ⟨a, vs, _, v, rfl, rfl, hv, a1, q _ _ H M (Go.refl S) b2 z⟩
    · exact .inr (.inl ⟨a, vs, _, v, rfl, rfl, hv, a1, q _ _ H M (Go.refl S) b2 z⟩)
  · exact f.elim
theorem de_ix (ha : DE X a ta wa) (hb : DE X b tb wb) (hs : PlainIx b := by intro _ _; rfl) : DE X (.Subscript a b pos) (tOp (rIx X.K) ta tb) (wOp ixD wa wb) := ⟨pe_ix ix_seq ha.pe hb.pe hs, sim_op ha.sm hb.sm sim_ix⟩
/-! ### slices -/
abbrev WO := En → Mp → (Option Int → Mp → Prop) → Prop
def SimO (K : PySem.W.Frag) (t : TO) (w : WO) : Prop := ∀ (Z : Hp) (ρ : En) (M : Mp) (σ : L2.St) (H : Hp) (Q : Option Int → Mp → Prop) (Q' : Option Int → Hp → Prop), R3 K Z ρ M σ H → w ρ M Q → (∀ b H' M', Go K Z H M H' M' → Q b M' → Q' b H') → t σ H Q'
structure DO (X : Cx) (e : Option Expr) (t : TO) (w : WO) : Prop where
  pe : PO X e t
  sm : SimO X.K t w
def wNoP : WO := fun _ M Q => Q none M
def wPart (w : WE) : WO := fun ρ M Q => w ρ M fun d M1 => match d with
  | .int i => Q (some i) M1
  | _ => False
theorem do_none : DO X none tNoPart wNoP := ⟨po_none, fun Z ρ M σ H Q Q' s h q => q _ H M s.refl h⟩
theorem do_some (h : DE X e te we) : DO X (some e) (tPart te) (wPart we) := by
  refine ⟨po_some h.pe, fun Z ρ M σ H Q Q' s hh q => ?_⟩
  refine h.sm Z ρ M σ H _ _ s hh fun x d H1 M1 g1 r1 q1 => ?_
  cases d with
  | int i =>
    cases r1
    exact ⟨i, rfl, q _ H1 M1 g1 q1⟩
  | _ => exact q1.elim
def cutD (xs : List D) (lo hi : Option Int) : List D := (xs.drop (HT.sIx xs.length 0 lo)).take (HT.sIx xs.length xs.length hi - HT.sIx xs.length 0 lo)
theorem cut_rep {K : PySem.W.Frag} {H : Hp} {vs : List V} {ds : List D} (r : RepL K H vs ds) (lo hi : Option Int) : RepL K H (cutV vs lo hi) (cutD ds lo hi) := by
  unfold cutV cutD
  rw [r.len]
  exact (r.drop _).take _
def slD : D → Option Int → Option Int → Mp → KD → Prop := fun d lo hi M Q => match d with
  | .tup ds => Q (.tup (cutD ds lo hi)) M
  | .str z => z.length ≤ sizeLine ∧ Q (.str (cutS z lo hi)) M
  | d => ∃ ds, (∃ a, d = .tok a ∨ d = .lst ds) ∧ seqD M d = some ds ∧ Q (.lst (cutD ds lo hi)) M
def rSlU (K : PySem.W.Frag) : V → Option Int → Option Int → Hp → VK → Prop := fun x lo hi H Q => rSlL K x lo hi H Q ∨ rSlA K x lo hi H Q ∨ rSlS x lo hi H Q
theorem sl_any : SlR X (rSlU X.K) := sl_list.or (sl_tupA.or sl_str)
def wSl (w : WE) (wl wh : WO) : WE := fun ρ M Q => w ρ M fun d M1 => wl ρ M1 fun l M2 => wh ρ M2 fun u M3 => slD d l u M3 Q
theorem sim_sl {K : PySem.W.Frag} {tl th : TO} {wl wh : WO} (h : SimE K te we) (hl : SimO K tl wl) (hh : SimO K th wh) : SimE K (tSl (rSlU K) te tl th) (wSl we wl wh) := by
  intro Z ρ M σ H Q Q' s hw q
  refine h Z ρ M σ H _ _ s hw fun x d H1 M1 g1 r1 q1 => ?_
  refine hl Z ρ M1 σ H1 _ _ (s.go g1) q1 fun lo H2 M2 g2 q2 => ?_
  refine hh Z ρ M2 σ H2 _ _ (s.go (g1.trans g2)) q2 fun hi H3 M3 g3 q3 => ?_
  have g := (g1.trans g2).trans g3
  have r3 := (r1.up g2.ex).up g3.ex
  unfold slD at q3
  split at q3
  · rename_i ds
    cases r3 with
    | @tup a vs _ hs rl =>
      refine .inr (.inl ⟨a, vs, rfl, sqt_mono fz_sub hs, fun ⟨e1, e2⟩ => ?_, fun _ p hp => ?_⟩)
      · have e : cutD ds lo hi = ds := by
          unfold cutD
          rw [← rl.len, e1, e2, Nat.sub_zero, List.drop_zero, rl.len, List.take_length]
        rw [e] at q3
        exact q _ _ H3 M3 g (.tup hs rl) q3
      · obtain ⟨g4, n⟩ := Go.laid (o := .tup (cutV vs lo hi)) g3.sat hp
        exact q _ _ _ _ (g.trans g4) (.tup (.inl (.inl n)) ((cut_rep rl lo hi).up g4.ex)) q3
  · rename_i z
    cases r3
    exact .inr (.inr ⟨z, rfl, q3.1, q _ _ H3 M3 g (.str _) q3.2⟩)
  · obtain ⟨ds, hd, hs, z⟩ := q3
    obtain ⟨a, vs, rfl, ha, rl⟩ := lst_of g3.sat r3 hd hs
    refine .inl ⟨a, vs, rfl, ha, fun p hp => ?_⟩
    obtain ⟨g4, n⟩ := Go.laid (o := .lst (cutV vs lo hi)) g3.sat hp
    exact q _ _ _ _ (g.trans g4) (.lst (.inl (.inl n)) ((cut_rep rl lo hi).up g4.ex)) z
theorem de_slice {lo hi : Option Expr} {tl th : TO} {wl wh : WO} {p2 : Pos} (he : DE X e te we) (hl : DO X lo tl wl) (hu : DO X hi th wh) : DE X (.Subscript e (.Slice lo hi none p2) pos) (tSl (rSlU X.K) te tl th) (wSl we wl wh) := ⟨pe_slice sl_any he.pe hl.pe hu.pe, sim_sl he.sm hl.sm hu.sm⟩
end
end L3
namespace L3
open PySem L2
section
variable {X : Cx} {E : WX3} {e a b c : Expr} {es : List Expr} {t ta tb tc te : TE} {w wa wb wc we : WE} {pos : Pos} {k : Nat} {tr : TA} {wr : WA} {st : Stmt} {rest : List Stmt} {ts tu : TS} {ws wu : WS} {tA : TT} {wA : WT}
/-! ### truth of any value -/
/-! ### blocks and small statements -/
def wNext : WS := fun D ρ M => D.nx ρ M
def wSeq (w u : WS) : WS := fun D ρ M => w { D with nx := u D } ρ M
theorem sim_seq {K : PySem.W.Frag} (h1 : SimS K E ts ws) (h2 : SimS K E tu wu) : SimS K E (tSeq ts tu) (wSeq ws wu) := by
  intro Z D3 ρ M σ H D r h en
  refine h1 Z _ ρ M σ H _ r h ⟨fun ρ' M' σ' H' r' g n => ?_, en.rt, en.bk, en.ct, en.xr⟩
  exact h2 Z D3 ρ' M' σ' H' D r' n (en.go g)
theorem dss_nil : DSs X E [] tNext wNext := ⟨pss_nil, fun Z D3 ρ M σ H D r h en => en.nx ρ M σ H r r.refl h⟩
theorem dss_cons (h1 : DS X E st ts ws) (h2 : DSs X E rest tu wu) : DSs X E (st :: rest) (tSeq ts tu) (wSeq ws wu) := ⟨pss_cons h1.pe h2.pe, sim_seq h1.sm h2.sm⟩
theorem dss_one (h1 : DS X E st ts ws) : DSs X E [st] ts ws := ⟨pss_one h1.pe, h1.sm⟩
def wDrop (w : WE) : WS := fun D ρ M => w ρ M fun _ M1 => D.nx ρ M1
theorem ds_expr (he : DE X e te we) (hs : swapsWith e none pos.line X.env = pure false := by rfl) : DS X E (.Expr e pos) (tDrop te) (wDrop we) :=
  ⟨ps_expr he.pe hs, fun Z D3 ρ M σ H D r h en => he.sm Z ρ M σ H _ _ r h fun v d H1 M1 g r1 q => en.nx ρ M1 σ H1 (r.go g) g q⟩
def wRet (w : WE) : WS := fun D ρ M => w ρ M D.rt
theorem ds_ret (he : DE X e te we) : DS X E (.Return (some e) pos) (tRet te) (wRet we) := ⟨ps_ret he.pe, fun Z D3 ρ M σ H D r h en => he.sm Z ρ M σ H _ _ r h fun v d H1 M1 g r1 q => en.rt v d H1 M1 g r1 q⟩
def wRetN : WS := fun D _ M => D.rt .non M
def wIfS (c : WT) (w u : WS) : WS := fun D ρ M => c ρ M fun b M1 => if b = true then w D ρ M1 else u D ρ M1
theorem ds_if {c : Expr} {p q : List Stmt} (hc : DT X c tA wA) (hp : DSs X E p ts ws) (hq : DSs X E q tu wu) : DS X E (.If c p q pos) (tIfS tA ts tu) (wIfS wA ws wu) := by
  refine ⟨ps_if hc.pe hp.pe hq.pe, fun Z D3 ρ M σ H D r h en => hc.sm Z ρ M σ H _ _ r h fun b H1 M1 g z => ?_⟩
  cases b with
  | true => exact hp.sm Z D3 ρ M1 σ H1 D (r.go g) z (en.go g)
  | false => exact hq.sm Z D3 ρ M1 σ H1 D (r.go g) z (en.go g)
/-! ### targets -/
abbrev WG := D → En → Mp → (En → Mp → Prop) → Prop
abbrev WGs := List D → En → Mp → (En → Mp → Prop) → Prop
def SimG (K : PySem.W.Frag) (t : TG) (w : WG) : Prop := ∀ (Z : Hp) (v : V) (d : D) (ρ : En) (M : Mp) (σ : L2.St) (H : Hp) (Q : En → Mp → Prop) (Q' : L2.St → Hp → Prop), R3 K Z ρ M σ H → Rep K (fz Z H M) v d → w d ρ M Q → (∀ ρ' M' σ' H', R3 K Z ρ' M' σ' H' → Go K Z H M H' M' → Q ρ' M' → Q' σ' H') → t v σ H Q'
structure DG (X : Cx) (e : Expr) (t : TG) (w : WG) : Prop where
  pe : PG X e t
  sm : SimG X.K t w
def wgName (i : Nat) : WG := fun d ρ M Q => Q (ρ.set i (some d)) M
theorem sim_gname {K : PySem.W.Frag} (i : Nat) : SimG K (gName i) (wgName i) := fun Z v d ρ M σ H Q Q' r rp h q => q _ M _ H ⟨r.sat, r.env.set i rp⟩ r.refl h
theorem dg_name (i : Nat) {x : Str} (hN : X.N.Nodup) (hi : X.N[i]? = some x := by rfl) (hx : Loc X.env.scope x := by first | exact .inl rfl | exact .inr rfl) (hf : X.fn x = true ∨ X.env.scope.names.lookup x = some .local := by first | exact .inl rfl | exact .inr rfl) : DG X (.Name x pos) (gName i) (wgName i) := ⟨pg_name hN hi hx hf, sim_gname i⟩
variable {tg : TG} {wg : WG} {tgs : TGs} {wgs : WGs}
/-- o[i] = v of a list of the store -/
def setD (o i v : D) (M : Mp) (Q : Mp → Prop) : Prop := match o, i with
  | .tok a, .int n => ∃ ds j, M a = some (.lst ds) ∧ ixN ds.length n = some j ∧ Q (setM M a (.lst (ds.set j v)))
  | _, _ => False
def wgSub (wo wi : WE) : WG := fun d ρ M Q => wo ρ M fun o M1 => wi ρ M1 fun i M2 => setD o i d M2 fun M3 => Q ρ M3
theorem dg_sub {o i : Expr} {to ti : TE} {wo wi : WE} (ho : DE X o to wo) (hi : DE X i ti wi) (ha : ∀ v, assign (.Subscript o i pos) X.env v = (do
      let ov ← holding [v] (eval o X.env)
      let iv ← holding [v, ov] (eval i X.env)
      standAt pos
      holding [v, ov, iv] (setItem ov iv v)
      release [v, ov, iv] []) := by intro _; rfl) : DG X (.Subscript o i pos) (gSub to ti rSetL) (wgSub wo wi) := by
  refine ⟨pg_sub ho.pe hi.pe set_list ha, fun Z v d ρ M σ H Q Q' r rp hw q => ?_⟩
  refine ho.sm Z ρ M σ H _ _ r hw fun x d1 H1 M1 g1 r1 q1 => ?_
  refine hi.sm Z ρ M1 σ H1 _ _ (r.go g1) q1 fun y d2 H2 M2 g2 r2 q2 => ?_
  unfold setD at q2
  split at q2
  · rename_i a n
    obtain ⟨ds, j, hm, hj, z⟩ := q2
    have r1' := r1.up g2.ex
    cases r1'
    cases r2
    obtain ⟨vs, e1, rl⟩ := g2.sat.cell a _ hm
    have g3 := Go.putL (p := a) g2.sat (.inr ⟨ds, hm⟩) (RepL.set ((rp.up g1.ex).up g2.ex) j rl)
    exact ⟨a, vs, n, j, rfl, rfl, e1, by rw [rl.len]; exact hj, q ρ _ σ _ (r.go ((g1.trans g2).trans g3)) ((g1.trans g2).trans g3) z⟩
  · exact q2.elim
def wAsg (w : WE) (g : WG) : WS := fun D ρ M => w ρ M fun d M1 => g d ρ M1 D.nx
theorem sim_asg {K : PySem.W.Frag} (he : SimE K te we) (hg : SimG K tg wg) : SimS K E (tAsg te tg) (wAsg we wg) := by
  intro Z D3 ρ M σ H D r h en
  refine he Z ρ M σ H _ _ r h fun v d H1 M1 g1 r1 q1 => ?_
  exact hg Z v d ρ M1 σ H1 _ _ (r.go g1) r1 q1 fun ρ2 M2 σ2 H2 s2 g2 z => en.nx ρ2 M2 σ2 H2 s2 (g1.trans g2) z
theorem ds_set (i : Nat) {x : Str} {pos' : Pos} (hN : X.N.Nodup) (he : DE X e te we) (hi : X.N[i]? = some x := by rfl) (hx : Loc X.env.scope x := by first | exact .inl rfl | exact .inr rfl) (hs : swapsWith e (some (.Name x pos')) pos.line X.env = pure false := by rfl)
    (hf : X.fn x = true ∨ X.env.scope.names.lookup x = some .local := by first | exact .inl rfl | exact .inr rfl) : DS X E (.Assign [.Name x pos'] e pos) (tAsg te (gName i)) (wAsg we (wgName i)) := ⟨ps_set hN hi hx he.pe hs hf, sim_asg he.sm (sim_gname i)⟩
theorem ds_asg {tgt : Expr} (he : DE X e te we) (hg : DG X tgt tg wg) (hs : swapsWithSole [tgt] e pos.line X.env = pure false := by rfl) (hw : swappedStores [tgt] e X.env = pure none := by rfl)
    (h1 : (assignEach [tgt] X.env).map (·.2) = [assign tgt X.env] := by rfl) : DS X E (.Assign [tgt] e pos) (tAsg te tg) (wAsg we wg) := ⟨ps_asg he.pe hg.pe hs hw h1, sim_asg he.sm hg.sm⟩
/-- a, b = x, y -/
def wPar (i j : Nat) (w : WA) : WS := fun D ρ M => w ρ M fun ds M1 => match ds with
  | [d, e] => D.nx ((ρ.set i (some d)).set j (some e)) M1
  | _ => False
theorem ds_par (i j : Nat) {x y : Str} {a b : Expr} {px py pt : Pos} {kt k2 pt2} (hc : X.calm = true) (hN : X.N.Nodup) (ha : DA X [a, b] tr wr) (hi : X.N[i]? = some x := by rfl) (hj : X.N[j]? = some y := by rfl) (hij : i ≠ j := by decide)
    (hx : X.env.scope.names.lookup x = some .local := by rfl) (hy : X.env.scope.names.lookup y = some .local := by rfl)
    (hw : swappedStores [.Tuple [.Name x px, .Name y py] kt pt] (.Tuple [a, b] k2 pt2) X.env = pure (some [x, y]) := by rfl)
    (hs : swapsWithSole [.Tuple [.Name x px, .Name y py] kt pt] (.Tuple [a, b] k2 pt2) pos.line X.env = pure false := by rfl) :
    DS X E (.Assign [.Tuple [.Name x px, .Name y py] kt pt] (.Tuple [a, b] k2 pt2) pos) (tPar i j tr) (wPar i j wr) := by
  refine ⟨ps_par hc hN hi hj hij hx hy ha.pe hw hs, fun Z D3 ρ M σ H D r h en => ?_⟩
  refine ha.sm Z ρ M σ H _ _ r h fun vs ds H1 M1 g1 r1 q1 => ?_
  cases r1 with
  | nil => exact q1.elim
  | cons r1 r2 =>
    cases r2 with
    | nil => exact q1.elim
    | cons r2 r3 =>
      cases r3 with
      | nil => exact ⟨_, _, rfl, en.nx _ M1 _ H1 ⟨g1.sat, (((r.go g1).env.set i r1).set j r2)⟩ g1 q1⟩
      | cons _ _ => exact q1.elim
def wPar3 (i j l : Nat) (w : WA) : WS := fun D ρ M => w ρ M fun ds M1 => match ds with
  | [d, e, f] => D.nx (((ρ.set i (some d)).set j (some e)).set l (some f)) M1
  | _ => False
theorem ds_par3 (i j l : Nat) {x y z : Str} {a b c : Expr} {px py pz pt : Pos} {kt k2 pt2} (hc : X.calm = true) (hN : X.N.Nodup) (ha : DA X [a, b, c] tr wr) (hi : X.N[i]? = some x := by rfl) (hj : X.N[j]? = some y := by rfl) (hl : X.N[l]? = some z := by rfl) (hij : i ≠ j := by decide) (hil : i ≠ l := by decide) (hjl : j ≠ l := by decide)
    (hx : X.env.scope.names.lookup x = some .local := by rfl) (hy : X.env.scope.names.lookup y = some .local := by rfl) (hz : X.env.scope.names.lookup z = some .local := by rfl)
    (hw : swappedStores [.Tuple [.Name x px, .Name y py, .Name z pz] kt pt] (.Tuple [a, b, c] k2 pt2) X.env = pure (some [x, y, z]) := by rfl)
    (hs : swapsWithSole [.Tuple [.Name x px, .Name y py, .Name z pz] kt pt] (.Tuple [a, b, c] k2 pt2) pos.line X.env = pure false := by rfl) :
    DS X E (.Assign [.Tuple [.Name x px, .Name y py, .Name z pz] kt pt] (.Tuple [a, b, c] k2 pt2) pos) (tPar3 i j l tr) (wPar3 i j l wr) := by
  refine ⟨ps_par3 hc hN hi hj hl hij hil hjl hx hy hz ha.pe hw hs, fun Z D3 ρ M σ H D r h en => ?_⟩
  refine ha.sm Z ρ M σ H _ _ r h fun vs ds H1 M1 g1 r1 q1 => ?_
  cases r1 with
  | nil => exact q1.elim
  | cons r1 r2 =>
    cases r2 with
    | nil => exact q1.elim
    | cons r2 r3 =>
      cases r3 with
      | nil => exact q1.elim
      | cons r3 r4 =>
        cases r4 with
        | nil => exact ⟨_, _, _, rfl, en.nx _ M1 _ H1 ⟨g1.sat, ((((r.go g1).env.set i r1).set j r2).set l r3)⟩ g1 q1⟩
        | cons _ _ => exact q1.elim
end
end L3
namespace L3
open PySem L2
section
variable {X : Cx} {E : WX3} {e a b c : Expr} {es : List Expr} {t ta tb tc te : TE} {w wa wb wc we : WE} {pos : Pos} {k : Nat} {tr : TA} {wr : WA} {st : Stmt} {rest : List Stmt} {ts tu : TS} {ws wu : WS} {tA : TT} {wA : WT} {tg : TG} {wg : WG} {tgt : Expr}
/-! ### what is walked -/
/-- the iterator yields the data ds, one by one, as long as Ok holds of the store -/
def Walks3 (K : PySem.W.Frag) (Z : Hp) (H : Hp) (M : Mp) (J : It) (ds : List D) (Ok : Mp → Prop) : Prop := ∀ (Z2 H2 : Hp) (M2 : Mp), Sat K Z2 H2 M2 → Same (fz Z H M) (fz Z2 H2 M2) → Ok M2 →
  (∀ (i : Nat) (d : D), ds[i]? = some d → J.go i H2 ∧ ∀ x H3, J.yld i H2 x H3 → Go K Z2 H2 M2 H3 M2 ∧ Rep K (fz Z2 H3 M2) x d) ∧ ∀ i, ds.length ≤ i → J.stop i H2
abbrev WI := En → Mp → (List D → (Mp → Prop) → Mp → Prop) → Prop
def SimI (K : PySem.W.Frag) (t : TI) (w : WI) : Prop := ∀ (Z : Hp) (ρ : En) (M : Mp) (σ : L2.St) (H : Hp) (R : List D → (Mp → Prop) → Mp → Prop) (R' : It → Hp → Prop), R3 K Z ρ M σ H → w ρ M R → (∀ J ds Ok H' M', Go K Z H M H' M' → Walks3 K Z H' M' J ds Ok → R ds Ok M' → R' J H') → t σ H R'
structure DI (X : Cx) (tgt e : Expr) (t : TI) (w : WI) : Prop where
  pe : PI X tgt e t
  sm : SimI X.K t w
def AnyM : Mp → Prop := fun _ => True
/-- a list, a tuple -/
def iSeq (K : PySem.W.Frag) (tl : TE) : TI := fun σ H R => tl σ H fun x J => ∃ p, x = .ref p ∧ (((∃ xs, SqL K J p xs) ∧ R (Itl K p) J) ∨ ((∃ xs, SqT K J p xs) ∧ R (Itt K p) J))
theorem pi_seq {l : Expr} {tl : TE} (hl : PE X l tl) : PI X tgt l (iSeq X.K tl) := by
  constructor
  intro pins s σ H R I h
  refine thn (hl.run pins s σ H _ I h) fun v s1 ⟨x, H1, I1, r1, p, e, q1⟩ => ?_
  subst e
  cases r1
  rcases q1 with ⟨⟨xs, hq⟩, q⟩ | ⟨⟨xs, hq⟩, q⟩
  · obtain ⟨its, rv, pl, hz⟩ := I1.list hq
    refine wpAny_pyIter_list pl.isList ?_
    refine ⟨s1.heap.objs.size, [s1.heap.objs.size], _, _, H1, rfl, I1.kept (t' := s1.toks) fun b o e => Heap.get?_push_of_some _ e, turn_list p _, ⟨_, Heap.get?_push_size _ rfl, rfl, rfl⟩, fun b hb => ?_, q⟩
    obtain rfl : b = s1.heap.objs.size := by simpa using hb
    exact I1.fpOk (Nat.le_refl _) (I1.hok.fresh (Nat.le_refl _))
  · obtain ⟨its, rv, pl, hz⟩ := I1.tuple hq
    refine wpAny_pyIter_tuple (show s1.heap.IsTuple p its.toArray from pl) ?_
    refine ⟨s1.heap.objs.size, [s1.heap.objs.size], _, _, H1, rfl, I1.kept (t' := s1.toks) fun b o e => Heap.get?_push_of_some _ e, turn_tuple p _, ⟨_, Heap.get?_push_size _ rfl, rfl, rfl⟩, fun b hb => ?_, q⟩
    obtain rfl : b = s1.heap.objs.size := by simpa using hb
    exact I1.fpOk (Nat.le_refl _) (I1.hok.fresh (Nat.le_refl _))
def wiSeq (w : WE) : WI := fun ρ M R => w ρ M fun d M1 => match d with
  | .tup ds => R ds AnyM M1
  | .lst ds => R ds AnyM M1
  | .tok p => ∃ ds, M1 p = some (.lst ds) ∧ R ds (fun M2 => M2 p = some (.lst ds)) M1
  | _ => False
theorem walks_l {K : PySem.W.Frag} {Z H : Hp} {M : Mp} {p : Addr} {vs : List V} {ds : List D} (h : SqL K (fz Z H M) p vs) (r : RepL K (fz Z H M) vs ds) : Walks3 K Z H M (Itl K p) ds AnyM := by
  intro Z2 H2 M2 S ex _
  have hq : SqL K H2 p vs := (ex.trans fz_sub).seq h
  refine ⟨fun i d e => ?_, fun i hi => ⟨vs, hq, by rw [r.len]; exact hi⟩⟩
  obtain ⟨v, e1, rp⟩ := r.get e
  refine ⟨⟨vs, v, hq, e1⟩, fun x H3 ⟨e2, y⟩ => ?_⟩
  subst e2
  obtain rfl : x = v := Option.some.inj ((y vs hq).symm.trans e1)
  exact ⟨Go.refl S, rp.up ex⟩
theorem walks_t {K : PySem.W.Frag} {Z H : Hp} {M : Mp} {p : Addr} {vs : List V} {ds : List D} (h : SqT K (fz Z H M) p vs) (r : RepL K (fz Z H M) vs ds) : Walks3 K Z H M (Itt K p) ds AnyM := by
  intro Z2 H2 M2 S ex _
  have hq : SqT K H2 p vs := sqt_mono (ex.trans fz_sub) h
  refine ⟨fun i d e => ?_, fun i hi => ⟨vs, hq, by rw [r.len]; exact hi⟩⟩
  obtain ⟨v, e1, rp⟩ := r.get e
  refine ⟨⟨vs, v, hq, e1⟩, fun x H3 ⟨e2, y⟩ => ?_⟩
  subst e2
  obtain rfl : x = v := Option.some.inj ((y vs hq).symm.trans e1)
  exact ⟨Go.refl S, rp.up ex⟩
theorem walks_m {K : PySem.W.Frag} {Z H : Hp} {M : Mp} {p : Addr} {ds : List D} : Walks3 K Z H M (Itl K p) ds (fun M2 => M2 p = some (.lst ds)) := by
  intro Z2 H2 M2 S ex ok
  obtain ⟨vs, e0, r⟩ := S.cell p _ ok
  have hq : SqL K H2 p vs := .inl (.inl e0)
  refine ⟨fun i d e => ?_, fun i hi => ⟨vs, hq, by rw [r.len]; exact hi⟩⟩
  obtain ⟨v, e1, rp⟩ := r.get e
  refine ⟨⟨vs, v, hq, e1⟩, fun x H3 ⟨e2, y⟩ => ?_⟩
  subst e2
  have e3 := y vs hq
  obtain rfl : x = v := Option.some.inj (e3.symm.trans e1)
  exact ⟨Go.refl S, rp⟩
theorem di_seq (h : DE X e te we) : DI X tgt e (iSeq X.K te) (wiSeq we) := by
  refine ⟨pi_seq h.pe, fun Z ρ M σ H R R' s hw q => ?_⟩
  refine h.sm Z ρ M σ H _ _ s hw fun x d H1 M1 g1 r1 q1 => ?_
  cases d with
  | tup ds =>
    cases r1 with
    | tup hs rl => exact ⟨_, rfl, .inr ⟨⟨_, sqt_mono fz_sub hs⟩, q _ _ _ H1 M1 g1 (walks_t hs rl) q1⟩⟩
  | lst ds =>
    cases r1 with
    | lst hs rl => exact ⟨_, rfl, .inl ⟨⟨_, fz_sub.seq hs⟩, q _ _ _ H1 M1 g1 (walks_l hs rl) q1⟩⟩
  | tok p =>
    cases r1
    obtain ⟨ds, hm, z⟩ := q1
    obtain ⟨vs, e1, rl⟩ := g1.sat.cell p _ hm
    exact ⟨_, rfl, .inl ⟨⟨vs, .inl (.inl e1)⟩, q _ _ _ H1 M1 g1 walks_m z⟩⟩
  | _ => exact q1.elim
/-- range(n), range(a, b) -/
def intsD (lo : Int) (n : Nat) : List D := (List.range n).map fun (i : Nat) => D.int (lo + (i : Int))
theorem walks_r {K : PySem.W.Frag} {Z H : Hp} {M : Mp} (lo : Int) (n : Nat) : Walks3 K Z H M (Itr lo n) (intsD lo n) AnyM := by
  intro Z2 H2 M2 S ex _
  refine ⟨fun i d e => ?_, fun i hi => ?_⟩
  · have hi : i < n := by
      have z := (List.getElem?_eq_some_iff.mp e).1
      unfold intsD at z
      rw [List.length_map, List.length_range] at z
      exact z
    have ed : d = .int (lo + (i : Int)) := by
      unfold intsD at e
      rw [List.getElem?_map, List.getElem?_range hi] at e
      exact (Option.some.inj e).symm
    subst ed
    refine ⟨hi, fun x H3 ⟨e1, e2⟩ => ?_⟩
    subst e1
    subst e2
    exact ⟨Go.refl S, .int _⟩
  · unfold intsD at hi
    rw [List.length_map, List.length_range] at hi
    exact hi
def wiRange1 (w : WA) : WI := fun ρ M R => w ρ M fun ds M1 => match ds with
  | [.int j] => j < 2 ^ 62 ∧ -(2 ^ 62) ≤ j ∧ R (intsD 0 j.toNat) AnyM M1
  | _ => False
theorem di_range1 {p : Pos} (hm : X.mg "range" = none) (ha : DA X [a] tr wr) (hg : Gl X "range" := by rfl) (hs : starEach [a] X.env = [(false, eval a X.env)] := by rfl) : DI X tgt (.Call (.Name "range" p) [a] [] pos) (iRng1 tr) (wiRange1 wr) := by
  refine ⟨pi_range1 hg hm ha.pe hs, fun Z ρ M σ H R R' s hw q => ?_⟩
  refine ha.sm Z ρ M σ H _ _ s hw fun xs ds H1 M1 g1 r1 q1 => ?_
  unfold wiRange1 at hw
  split at q1
  · cases r1 with
    | cons r1 r2 =>
      cases r1
      cases r2
      exact ⟨_, rfl, q1.2.1, q1.1, q _ _ _ H1 M1 g1 (walks_r _ _) q1.2.2⟩
  · exact q1.elim
/-! ### for -/
def wLoop (g : WG) (wb : WS) (Ok : Mp → Prop) (D3 : Ends3) : List D → En → Mp → Prop
  | [], ρ, M => Ok M ∧ D3.nx ρ M
  | d :: ds, ρ, M => Ok M ∧ g d ρ M fun ρ1 M1 => wb { D3 with nx := wLoop g wb Ok D3 ds, ct := wLoop g wb Ok D3 ds, bk := D3.nx } ρ1 M1
def wFor (wi : WI) (g : WG) (wb : WS) : WS := fun D3 ρ M => wi ρ M fun ds Ok M1 => wLoop g wb Ok D3 ds ρ M1
theorem sim_for {ti : TI} {wi : WI} (K : PySem.W.Frag) (hi : SimI K ti wi) (hg : SimG K tg wg) (hb : SimS K E ts ws) : SimS K E (tFor ti tg ts) (wFor wi wg ws) := by
  intro Z D3 ρ M σ H D r h en
  refine hi Z ρ M σ H _ _ r h fun J ds Ok H1 M1 g1 wk q1 => ?_
  refine ⟨fun i m σ' H' => m + i = ds.length ∧ ∃ ρ' M', R3 K Z ρ' M' σ' H' ∧ Go K Z H1 M1 H' M' ∧ wLoop wg ws Ok D3 (ds.drop i) ρ' M', ⟨ds.length, rfl, ρ, M1, r.go g1, Go.refl g1.sat, q1⟩, fun i m σ' H' ⟨em, ρ', M', r', g', l⟩ => ?_⟩
  by_cases hlt : i < ds.length
  · have e : ds.drop i = ds[i] :: ds.drop (i + 1) := List.drop_eq_getElem_cons hlt
    rw [e] at l
    obtain ⟨ok, l⟩ := l
    obtain ⟨go, yl⟩ := (wk Z H' M' g'.sat g'.ex ok).1 i ds[i] (List.getElem?_eq_getElem hlt)
    refine .inr ⟨go, fun σ2 H2 => ∃ ρ2 M2, R3 K Z ρ2 M2 σ2 H2 ∧ Go K Z H1 M1 H2 M2 ∧ wLoop wg ws Ok D3 (ds.drop (i + 1)) ρ2 M2, fun σ2 H2 ⟨ρ2, M2, r2, g2, l2⟩ => ⟨m - 1, by omega, by omega, ρ2, M2, r2, g2, l2⟩, fun x H3 hy => ?_⟩
    obtain ⟨g3, rp⟩ := yl x H3 hy
    refine hg Z x _ ρ' M' σ' H3 _ _ (r'.go g3) rp l fun ρ4 M4 σ4 H4 r4 g4 z => ?_
    have g14 := (g'.trans g3).trans g4
    refine hb Z _ ρ4 M4 σ4 H4 _ r4 z ⟨fun ρ5 M5 σ5 H5 r5 g5 z5 => ⟨ρ5, M5, r5, g14.trans g5, z5⟩, fun v d H5 M5 g5 rp5 z5 => en.rt v d H5 M5 ((g1.trans g14).trans g5) rp5 z5,
      fun ρ5 M5 σ5 H5 r5 g5 z5 => en.nx ρ5 M5 σ5 H5 r5 ((g1.trans g14).trans g5) z5, fun ρ5 M5 σ5 H5 r5 g5 z5 => ⟨ρ5, M5, r5, g14.trans g5, z5⟩, fun x C dx vs fs ρ5 σ5 H5 M5 ca5 r5 g5 e5 l5 rf5 z5 => en.xr x C dx vs fs ρ5 σ5 H5 M5 ca5 r5 ((g1.trans g14).trans g5) e5 l5 rf5 z5⟩
  · have e : ds.drop i = [] := List.drop_eq_nil_of_le (by omega)
    rw [e] at l
    exact .inl ⟨(wk Z H' M' g'.sat g'.ex l.1).2 i (by omega), en.nx ρ' M' σ' H' r' (g1.trans g') l.2⟩
theorem ds_for {ti : TI} {wi : WI} {body : List Stmt} (hp : PassesOwn (model X.prog X.w) X.A X.env X.xe) (hc : X.calm = true) (hi : DI X tgt e ti wi) (hg : DG X tgt tg wg) (hb : DSs X E body ts ws) (hs : ∀ x, foldedSetIterable e X.env x = pure x := by intro _; rfl) :
    DS X E (.For tgt e body [] pos) (tFor ti tg ts) (wFor wi wg ws) := ⟨ps_for hp hc hi.pe hg.pe hb.pe hs, sim_for X.K hi.sm hg.sm hb.sm⟩
/-! ### while -/
def wWhile (c : WT) (wb : WS) : WS := fun D3 ρ M => ∃ W : Nat → En → Mp → Prop, (∃ m, W m ρ M) ∧ ∀ m ρ M, W m ρ M →
  c ρ M fun b M1 => if b = true then wb { D3 with nx := fun ρ' M' => ∃ m', m' < m ∧ W m' ρ' M', ct := fun ρ' M' => ∃ m', m' < m ∧ W m' ρ' M', bk := D3.nx } ρ M1 else D3.nx ρ M1
theorem ds_while {body : List Stmt} {c : Expr} (hp : PassesOwn (model X.prog X.w) X.A X.env X.xe) (hc : DT X c tA wA) (hb : DSs X E body ts ws) : DS X E (.While c body [] pos) (tWhile tA ts) (wWhile wA ws) := by
  refine ⟨ps_while hp hc.pe hb.pe, fun Z D3 ρ M σ H D r h en => ?_⟩
  obtain ⟨W, ⟨m0, w0⟩, turn⟩ := h
  refine ⟨fun m σ' H' => ∃ ρ' M', R3 X.K Z ρ' M' σ' H' ∧ Go X.K Z H M H' M' ∧ W m ρ' M', ⟨m0, ρ, M, r, r.refl, w0⟩, fun m σ' H' ⟨ρ', M', r', g', w'⟩ => ?_⟩
  refine hc.sm Z ρ' M' σ' H' _ _ r' (turn m ρ' M' w') fun b H1 M1 g1 z => ?_
  cases b with
  | true =>
    rw [if_pos rfl] at z ⊢
    refine ⟨fun σ2 H2 => ∃ m', m' < m ∧ ∃ ρ2 M2, R3 X.K Z ρ2 M2 σ2 H2 ∧ Go X.K Z H M H2 M2 ∧ W m' ρ2 M2, fun _ _ z2 => z2, ?_⟩
    have g := g'.trans g1
    exact hb.sm Z _ ρ' M1 σ' H1 _ (r'.go g1) z ⟨fun ρ5 M5 σ5 H5 r5 g5 ⟨m', l, z5⟩ => ⟨m', l, ρ5, M5, r5, g.trans g5, z5⟩, fun v d H5 M5 g5 rp5 z5 => en.rt v d H5 M5 (g.trans g5) rp5 z5,
      fun ρ5 M5 σ5 H5 r5 g5 z5 => en.nx ρ5 M5 σ5 H5 r5 (g.trans g5) z5, fun ρ5 M5 σ5 H5 r5 g5 ⟨m', l, z5⟩ => ⟨m', l, ρ5, M5, r5, g.trans g5, z5⟩, fun x C dx vs fs ρ5 σ5 H5 M5 ca5 r5 g5 e5 l5 rf5 z5 => en.xr x C dx vs fs ρ5 σ5 H5 M5 ca5 r5 (g.trans g5) e5 l5 rf5 z5⟩
  | false =>
    rw [if_neg Bool.false_ne_true] at z ⊢
    exact en.nx ρ' M1 σ' H1 (r'.go g1) (g'.trans g1) z
end
end L3
namespace L3
open PySem L2
section
variable {X : Cx} {E : WX3} {e a b c elt iter tgt : Expr} {es ifs : List Expr} {t ta tb tc te : TE} {w wa wb wc we : WE} {pos : Pos} {k : Nat} {tr : TA} {wr : WA} {tt : TT} {wt : WT} {tg : TG} {wg : WG} {ti : TI} {wi : WI}
/-! ### comprehensions -/
def wipeE (ρ : En) : List Nat → En
  | [] => ρ
  | v :: vs => (wipeE ρ vs).set v none
theorem wipe_rel {K : PySem.W.Frag} {H : Hp} {σ : L2.St} {ρ : En} (r : RelS K H σ ρ) : ∀ vs : List Nat, RelS K H (wipe σ vs) (wipeE ρ vs)
  | [] => r
  | v :: vs => by
    have ih := wipe_rel r vs
    refine ⟨by show ((wipe σ vs).set v none).length = ((wipeE ρ vs).set v none).length; rw [List.length_set, List.length_set]; exact ih.1, fun i d q => ?_⟩
    have q' : ((wipeE ρ vs).set v none)[i]? = some (some d) := q
    by_cases hi : v = i
    · subst hi
      rw [List.getElem?_set_self'] at q'
      cases z : (wipeE ρ vs)[v]? with
      | none =>
        rw [z] at q'
        cases q'
      | some o =>
        rw [z] at q'
        cases q'
    · rw [List.getElem?_set_ne hi] at q'
      obtain ⟨u, h1, h2⟩ := ih.2 i d q'
      exact ⟨u, by show ((wipe σ vs).set v none)[i]? = _; rw [List.getElem?_set_ne hi]; exact h1, h2⟩
theorem wipe_set {σ : L2.St} {j : Nat} {o : Option V} : ∀ {vs : List Nat}, j ∈ vs → wipe (σ.set j o) vs = wipe σ vs
  | v :: vs, h => by
    show (wipe (σ.set j o) vs).set v none = (wipe σ vs).set v none
    by_cases hm : j ∈ vs
    · rw [wipe_set hm]
    · have hj : j = v := (List.mem_cons.mp h).resolve_right hm
      subst hj
      have cm : ∀ (us : List Nat), wipe (σ.set j o) us = wipe σ us ∨ wipe (σ.set j o) us = (wipe σ us).set j o := fun us => by
        induction us with
        | nil => exact .inr rfl
        | cons u us ih =>
          rcases ih with h1 | h1
          · left
            show (wipe (σ.set j o) us).set u none = (wipe σ us).set u none
            rw [h1]
          · by_cases hu : u = j
            · subst hu
              left
              show (wipe (σ.set u o) us).set u none = (wipe σ us).set u none
              rw [h1, List.set_set]
            · right
              show (wipe (σ.set j o) us).set u none = ((wipe σ us).set u none).set j o
              rw [h1, List.set_comm _ _ (Ne.symm hu)]
      rcases cm vs with h1 | h1
      · rw [h1]
      · rw [h1, List.set_set]
/-- the target stores into the block's own slots alone -/
def KeepG (vs : List Nat) (tg : TG) : Prop := ∀ (v : V) (σ0 σ : L2.St) (H : Hp) (Q : L2.St → Hp → Prop), wipe σ vs = σ0 → tg v σ H Q → tg v σ H fun σ2 H2 => wipe σ2 vs = σ0 ∧ Q σ2 H2
theorem keep_name {vs : List Nat} {j : Nat} (h : j ∈ vs := by decide) : KeepG vs (gName j) := fun v σ0 σ H Q e q => ⟨by rw [wipe_set h]; exact e, q⟩
structure DTs (X : Cx) (ifs : List Expr) (t : TT) (w : WT) : Prop where
  pe : PTs X ifs t
  sm : SimT X.K t w
def wYes : WT := fun _ M Q => Q true M
theorem dts_nil : DTs X [] tYes wYes := ⟨pts_nil, fun Z ρ M σ H Q Q' s h q => q true H M s.refl h⟩
theorem dts_one (h : DT X e tt wt) : DTs X [e] tt wt := ⟨pts_one h.pe, h.sm⟩
def wLcL (g : WG) (wt : WT) (we : WE) (Ok : Mp → Prop) (ρ : En) : List D → List D → Mp → KD → Prop
  | [], acc, M, Q => Ok M ∧ Q (.lst acc) M
  | d :: ds, acc, M, Q => Ok M ∧ acc.length < sizeLine ∧ g d ρ M fun ρ1 M1 => wt ρ1 M1 fun b M2 => if b = true then we ρ1 M2 fun y M3 => wLcL g wt we Ok ρ ds (acc ++ [y]) M3 Q else wLcL g wt we Ok ρ ds acc M2 Q
def wLc (wi : WI) (g : WG) (wt : WT) (we : WE) (vs : List Nat) : WE := fun ρ M Q => wi ρ M fun ds Ok M1 => wLcL g wt we Ok (wipeE ρ vs) ds [] M1 Q
theorem sim_lc {K : PySem.W.Frag} {vs : List Nat} (hi : SimI K ti wi) (hg : SimG K tg wg) (ht : SimT K tt wt) (he : SimE K te we) (kp : KeepG vs tg) : SimE K (tLc ti tg tt te vs) (wLc wi wg wt we vs) := by
  intro Z ρ M σ H Q Q' r h q
  refine hi Z ρ M σ H _ _ r h fun J ds Ok H1 M1 g1 wk q1 => ?_
  intro D hD
  have m1 := g1.sat.free hD
  have z1 := g1.sat.freeZ hD
  have f1 : fz Z H1 M1 D = none := by
    rw [fz_none m1 z1]
    exact hD
  have s0 := Sat.swap (Z' := upd Z D (.lst [])) (H' := upd H1 D (.lst [])) g1.sat m1 f1 (fun b hb => upd_ne hb) (fun b hb => upd_ne hb) (fun o e => by rw [upd_same] at e ⊢; exact e)
  refine ⟨fun i m H' => m + i = ds.length ∧ ∃ (acc : List L3.D) (va : List V) (M' : Mp), Sat K (upd Z D (.lst va)) H' M' ∧ Same (fz Z H1 M1) (fz (upd Z D (.lst va)) H' M') ∧ RepL K (fz (upd Z D (.lst va)) H' M') va acc ∧ wLcL wg wt we Ok (wipeE ρ vs) (ds.drop i) acc M' Q,
    ⟨ds.length, rfl, [], [], M1, s0.1, s0.2, .nil, q1⟩, fun i m H' ⟨em, acc, va, M', S, ex, ra, l⟩ => ?_⟩
  have zd : upd Z D (.lst va) D = some (.lst va) := upd_same
  by_cases hlt : i < ds.length
  · have e : ds.drop i = ds[i] :: ds.drop (i + 1) := List.drop_eq_getElem_cons hlt
    rw [e] at l
    obtain ⟨ok, hacc, l⟩ := l
    obtain ⟨go, yl⟩ := (wk _ H' M' S ex ok).1 i ds[i] (List.getElem?_eq_getElem hlt)
    refine .inr ⟨go, fun H2 => ∃ (acc : List L3.D) (va : List V) (M' : Mp), Sat K (upd Z D (.lst va)) H2 M' ∧ Same (fz Z H1 M1) (fz (upd Z D (.lst va)) H2 M') ∧ RepL K (fz (upd Z D (.lst va)) H2 M') va acc ∧ wLcL wg wt we Ok (wipeE ρ vs) (ds.drop (i + 1)) acc M' Q,
      fun H2 z => ⟨m - 1, by omega, by omega, z⟩, fun x H3 hy => ?_⟩
    obtain ⟨g3, rp⟩ := yl x H3 hy
    have r3 : R3 K (upd Z D (.lst va)) (wipeE ρ vs) M' (wipe σ vs) H3 := ⟨g3.sat, (wipe_rel (r.env.up g1.ex) vs).up (ex.trans g3.ex)⟩
    have ww : wipe (wipe σ vs) vs = wipe σ vs := by
      have idem : ∀ us : List Nat, (∀ u ∈ us, u ∈ vs) → wipe (wipe σ us) vs = wipe σ vs := fun us => by
        induction us with
        | nil => intro _; rfl
        | cons u us ih =>
          intro hu
          show wipe ((wipe σ us).set u none) vs = _
          rw [wipe_set (hu u List.mem_cons_self)]
          exact ih fun y hy => hu y (List.mem_cons_of_mem _ hy)
      exact idem vs fun u hu => hu
    refine kp x _ _ H3 _ ww ?_
    refine hg _ x _ _ M' _ H3 _ _ r3 rp l fun ρ4 M4 σ4 H4 r4 g4 z => ?_
    refine ht _ ρ4 M4 σ4 H4 _ _ r4 z fun b H5 M5 g5 z5 => ?_
    have g35 := (g3.trans g4).trans g5
    cases b with
    | true =>
      rw [if_pos rfl] at z5 ⊢
      refine he _ ρ4 M5 σ4 H5 _ _ (r4.go g5) z5 fun y d H6 M6 g6 r6 z6 => ?_
      have g36 := g35.trans g6
      have h6 := g36.sat.zed D _ zd
      refine ⟨va, h6.1, by rw [ra.len]; exact hacc, ?_⟩
      have s6 := Sat.swap (Z' := upd Z D (.lst (va ++ [y]))) (H' := upd H6 D (.lst (va ++ [y]))) g36.sat h6.2 (fz_hid zd) (fun b hb => upd_ne hb) (fun b hb => by rw [upd_ne hb, upd_ne hb]) (fun o e => by rw [upd_same] at e ⊢; exact e)
      exact ⟨acc ++ [d], va ++ [y], M6, s6.1, (ex.trans g36.ex).trans s6.2, ((ra.up g36.ex).up s6.2).app (.cons (r6.up s6.2) .nil), z6⟩
    | false =>
      rw [if_neg Bool.false_ne_true] at z5 ⊢
      exact ⟨acc, va, M5, g35.sat, ex.trans g35.ex, ra.up g35.ex, z5⟩
  · have e : ds.drop i = [] := List.drop_eq_nil_of_le (by omega)
    rw [e] at l
    have hd := S.zed D _ zd
    have s2 := Sat.swap (Z' := Z) (H' := H') S hd.2 (fz_hid zd) (fun b hb => rfl) (fun b hb => by rw [upd_ne hb]) (fun o e => by rw [z1] at e; cases e)
    refine .inl ⟨(wk _ H' M' S ex l.1).2 i (by omega), ?_⟩
    exact q _ _ H' M' ⟨s2.1, (g1.ex.trans ex).trans s2.2⟩ (.lst (.inl (.inl (fz_to hd.2 z1 hd.1))) (ra.up s2.2)) l.2
theorem de_lc0 {scope : Scope} {own : List (Str × Nat)} (hc : X.calm = true) (hN : X.N.Nodup) (hi : DI X tgt iter ti wi) (ok : BlkOk X.N X.env.scope scope own)
    (hg : ∀ (s : Shared) (H : Hp) (C : Addr) (cl : List (Str × Addr)) (fp : List Addr), DG (X.blk s H scope (compEnvC scope cl C X.env) fp) tgt tg wg) (ht : ∀ (s : Shared) (H : Hp) (C : Addr) (cl : List (Str × Addr)) (fp : List Addr), DTs (X.blk s H scope (compEnvC scope cl C X.env) fp) ifs tt wt)
    (he : ∀ (s : Shared) (H : Hp) (C : Addr) (cl : List (Str × Addr)) (fp : List Addr), DE (X.blk s H scope (compEnvC scope cl C X.env) fp) elt te we) (kp : KeepG (own.map (·.2)) tg) (hs : ∀ x, foldedSetIterable iter X.env x = pure x := by intro _; rfl) :
    DE X (.ListComp elt [⟨tgt, iter, ifs, 0⟩] scope pos) (tLc ti tg tt te (own.map (·.2))) (wLc wi wg wt we (own.map (·.2))) :=
  ⟨pe_lc hc hN hi.pe ok (fun s H C cl fp => (hg s H C cl fp).pe) (fun s H C cl fp => (ht s H C cl fp).pe) (fun s H C cl fp => (he s H C cl fp).pe) hs, sim_lc hi.sm (hg X.s_0 X.H_0 0 [] []).sm (ht X.s_0 X.H_0 0 [] []).sm (he X.s_0 X.H_0 0 [] []).sm kp⟩
/-- name = [..] on one line -/
theorem ds_setLc0 (i : Nat) {y : Str} {py : Pos} {scope : Scope} {own : List (Str × Nat)} {spos : Pos} (hc : X.calm = true) (hN : X.N.Nodup)
    (hi : DI X tgt iter ti wi) (ok : BlkOk X.N X.env.scope scope own)
    (hg : ∀ (s : Shared) (H : Hp) (C : Addr) (cl : List (Str × Addr)) (fp : List Addr), DG (X.blk s H scope (compEnvC scope cl C X.env) fp) tgt tg wg) (ht : ∀ (s : Shared) (H : Hp) (C : Addr) (cl : List (Str × Addr)) (fp : List Addr), DTs (X.blk s H scope (compEnvC scope cl C X.env) fp) ifs tt wt)
    (he : ∀ (s : Shared) (H : Hp) (C : Addr) (cl : List (Str × Addr)) (fp : List Addr), DE (X.blk s H scope (compEnvC scope cl C X.env) fp) elt te we) (kp : KeepG (own.map (·.2)) tg)
    (hsw : swapsWith (.ListComp elt [⟨tgt, iter, ifs, 0⟩] scope pos) (some (.Name y py)) spos.line X.env = pure true) (hy : X.N[i]? = some y := by rfl) (hyl : X.env.scope.names.lookup y = some .local := by rfl) (hs : ∀ x, foldedSetIterable iter X.env x = pure x := by intro _; rfl) :
    DS X E (.Assign [.Name y py] (.ListComp elt [⟨tgt, iter, ifs, 0⟩] scope pos) spos) (tAsg (tLc ti tg tt te (own.map (·.2))) (gName i)) (wAsg (wLc wi wg wt we (own.map (·.2))) (wgName i)) :=
  ⟨ps_setLc hc hN hy hyl hsw hi.pe ok (fun s H C cl fp => (hg s H C cl fp).pe) (fun s H C cl fp => (ht s H C cl fp).pe) (fun s H C cl fp => (he s H C cl fp).pe) hs, sim_asg (sim_lc hi.sm (hg X.s_0 X.H_0 0 [] []).sm (ht X.s_0 X.H_0 0 [] []).sm (he X.s_0 X.H_0 0 [] []).sm kp) (sim_gname i)⟩
section
variable {scope : Scope} {own : List (Str × Nat)} {gF : Shared → Hp → Addr → List (Str × Addr) → List Addr → TG} {tF : Shared → Hp → Addr → List (Str × Addr) → List Addr → TT} {eF : Shared → Hp → Addr → List (Str × Addr) → List Addr → TE}
theorem de_lc (hc : X.calm = true) (hN : X.N.Nodup) (hi : DI X tgt iter ti wi) (ok : BlkOk X.N X.env.scope scope own)
    (hg : ∀ (s : Shared) (H : Hp) (C : Addr) (cl : List (Str × Addr)) (fp : List Addr), DG (X.blk s H scope (compEnvC scope cl C X.env) fp) tgt (gF s H C cl fp) wg) (ht : ∀ (s : Shared) (H : Hp) (C : Addr) (cl : List (Str × Addr)) (fp : List Addr), DTs (X.blk s H scope (compEnvC scope cl C X.env) fp) ifs (tF s H C cl fp) wt)
    (he : ∀ (s : Shared) (H : Hp) (C : Addr) (cl : List (Str × Addr)) (fp : List Addr), DE (X.blk s H scope (compEnvC scope cl C X.env) fp) elt (eF s H C cl fp) we) (kp : KeepG (own.map (·.2)) (gF X.s_0 X.H_0 0 [] [])) (hs : ∀ x, foldedSetIterable iter X.env x = pure x := by intro _; rfl)
    (qg : ∀ s H C cl fp, gF s H C cl fp = gF X.s_0 X.H_0 0 [] [] := by intros; rfl) (qt : ∀ s H C cl fp, tF s H C cl fp = tF X.s_0 X.H_0 0 [] [] := by intros; rfl) (qe : ∀ s H C cl fp, eF s H C cl fp = eF X.s_0 X.H_0 0 [] [] := by intros; rfl) :
    DE X (.ListComp elt [⟨tgt, iter, ifs, 0⟩] scope pos) (tLc ti (gF X.s_0 X.H_0 0 [] []) (tF X.s_0 X.H_0 0 [] []) (eF X.s_0 X.H_0 0 [] []) (own.map (·.2))) (wLc wi wg wt we (own.map (·.2))) :=
  de_lc0 hc hN hi ok (fun s H C cl fp => qg s H C cl fp ▸ hg s H C cl fp) (fun s H C cl fp => qt s H C cl fp ▸ ht s H C cl fp) (fun s H C cl fp => qe s H C cl fp ▸ he s H C cl fp) kp hs
theorem ds_setLc (i : Nat) {y : Str} {py : Pos} {spos : Pos} (hc : X.calm = true) (hN : X.N.Nodup) (hi : DI X tgt iter ti wi) (ok : BlkOk X.N X.env.scope scope own)
    (hg : ∀ (s : Shared) (H : Hp) (C : Addr) (cl : List (Str × Addr)) (fp : List Addr), DG (X.blk s H scope (compEnvC scope cl C X.env) fp) tgt (gF s H C cl fp) wg) (ht : ∀ (s : Shared) (H : Hp) (C : Addr) (cl : List (Str × Addr)) (fp : List Addr), DTs (X.blk s H scope (compEnvC scope cl C X.env) fp) ifs (tF s H C cl fp) wt)
    (he : ∀ (s : Shared) (H : Hp) (C : Addr) (cl : List (Str × Addr)) (fp : List Addr), DE (X.blk s H scope (compEnvC scope cl C X.env) fp) elt (eF s H C cl fp) we) (kp : KeepG (own.map (·.2)) (gF X.s_0 X.H_0 0 [] []))
    (hsw : swapsWith (.ListComp elt [⟨tgt, iter, ifs, 0⟩] scope pos) (some (.Name y py)) spos.line X.env = pure true) (hy : X.N[i]? = some y := by rfl) (hyl : X.env.scope.names.lookup y = some .local := by rfl) (hs : ∀ x, foldedSetIterable iter X.env x = pure x := by intro _; rfl)
    (qg : ∀ s H C cl fp, gF s H C cl fp = gF X.s_0 X.H_0 0 [] [] := by intros; rfl) (qt : ∀ s H C cl fp, tF s H C cl fp = tF X.s_0 X.H_0 0 [] [] := by intros; rfl) (qe : ∀ s H C cl fp, eF s H C cl fp = eF X.s_0 X.H_0 0 [] [] := by intros; rfl) :
    DS X E (.Assign [.Name y py] (.ListComp elt [⟨tgt, iter, ifs, 0⟩] scope pos) spos) (tAsg (tLc ti (gF X.s_0 X.H_0 0 [] []) (tF X.s_0 X.H_0 0 [] []) (eF X.s_0 X.H_0 0 [] []) (own.map (·.2))) (gName i)) (wAsg (wLc wi wg wt we (own.map (·.2))) (wgName i)) :=
  ds_setLc0 i hc hN hi ok (fun s H C cl fp => qg s H C cl fp ▸ hg s H C cl fp) (fun s H C cl fp => qt s H C cl fp ▸ ht s H C cl fp) (fun s H C cl fp => qe s H C cl fp ▸ he s H C cl fp) kp hsw hy hyl hs
end
/-! ### built-in functions -/
abbrev FC := List D → Mp → KD → Prop
def SimC (K : PySem.W.Frag) (r : List V → Hp → VK → Prop) (f : FC) : Prop := ∀ (Z : Hp) (xs : List V) (ds : List D) (H : Hp) (M : Mp) (Q : KD) (Q' : VK), Sat K Z H M → RepL K (fz Z H M) xs ds → f ds M Q → (∀ v d' H' M', Go K Z H M H' M' → Rep K (fz Z H' M') v d' → Q d' M' → Q' v H') → r xs H Q'
def wCB (f : FC) (r : WA) : WE := fun ρ M Q => r ρ M fun ds M1 => f ds M1 Q
theorem sim_CB {K : PySem.W.Frag} {r : List V → Hp → VK → Prop} {f : FC} (ha : SimA K tr wr) (hs : SimC K r f) : SimE K (tCB r tr) (wCB f wr) := by
  intro Z ρ M σ H Q Q' s h q
  refine ha Z ρ M σ H _ _ s h fun xs ds H1 M1 g1 r1 q1 => ?_
  exact hs Z xs ds H1 M1 Q Q' g1.sat r1 q1 fun v d H2 M2 g2 r2 q2 => q v d H2 M2 (g1.trans g2) r2 q2
theorem de_callB {x : Str} {p : Pos} {id : String} {r : List V → Hp → VK → Prop} {f : FC} (hc : CallR X (.builtin id) r) (hs : SimC X.K r f) (hm : X.mg x = none) (hv : bootBuiltins x = some (.builtin id)) (ha : DA X (e :: es) tr wr) (hg : Gl X x := by rfl) (hn : x ≠ "__name__" := by decide) (hdb : (x == ("__debug__" : Str)) = false := by decide)
    (he : starEach (e :: es) X.env = (false, eval e X.env) :: starEach es X.env := by rfl) (hpl : (backTo pos (starEach es X.env)).any (·.1) = false := by rfl) : DE X (.Call (.Name x p) (e :: es) [] pos) (tCB r tr) (wCB f wr) := ⟨pe_callB hc hg hm hv ha.pe hn hdb he hpl, sim_CB ha.sm hs⟩
theorem de_callTy {x : Str} {p : Pos} {T : String} {r : List V → Hp → VK → Prop} {f : FC} (hc : CallR X (.type T) r) (hs : SimC X.K r f) (hm : X.mg x = none) (hv : bootBuiltins x = some (.type T)) (ha : DA X (e :: es) tr wr) (hg : Gl X x := by rfl) (hn : x ≠ "__name__" := by decide) (hdb : (x == ("__debug__" : Str)) = false := by decide)
    (he : starEach (e :: es) X.env = (false, eval e X.env) :: starEach es X.env := by rfl) (hpl : (backTo pos (starEach es X.env)).any (·.1) = false := by rfl) : DE X (.Call (.Name x p) (e :: es) [] pos) (tCB r tr) (wCB f wr) := ⟨pe_callTy hc hg hm hv ha.pe hn hdb he hpl, sim_CB ha.sm hs⟩
/-- repr -/
def fRepr : FC := fun ds M Q => match ds with
  | [d] => (∃ n, n ≤ 60 ∧ shw n (res M d)) ∧ cost (res M d) ≤ 16000000 ∧ Q (.str (shown (res M d))) M
  | _ => False
/-- len -/
def fLen : FC := fun ds M Q => match ds with
  | [.str x] => x.length ≤ sizeLine ∧ Q (.int (x.length : Int)) M
  | [d] => ∃ es, seqD M d = some es ∧ Q (.int (es.length : Int)) M
  | _ => False
def rLenA (K : PySem.W.Frag) : List V → Hp → VK → Prop := fun xs H Q => (∃ p ys, xs = [.ref p] ∧ (SqL K H p ys ∨ SqT K H p ys) ∧ Q (.int ys.length) H) ∨ ∃ z, xs = [.str z] ∧ z.length ≤ sizeLine ∧ Q (.int z.length) H
theorem call_lenA : CallR X (.builtin "len") (rLenA X.K) := call_len_seq.or call_len_str
theorem sim_len {K : PySem.W.Frag} : SimC K (rLenA K) fLen := by
  intro Z xs ds H M Q Q' S r f q
  unfold fLen at f
  split at f
  · cases r with
    | cons r1 r2 =>
      cases r2
      cases r1
      exact .inr ⟨_, rfl, f.1, q _ _ H M (Go.refl S) (.int _) f.2⟩
  · cases r with
    | cons r1 r2 =>
      cases r2
      obtain ⟨es, hs, z⟩ := f
      obtain ⟨p, vs, rfl, hv, rl⟩ := seq_of S r1 hs
      refine .inl ⟨p, vs, rfl, hv, q _ _ H M (Go.refl S) ?_ z⟩
      rw [rl.len]
      exact .int _
  · exact f.elim
/-- int(x) of an int, a bool -/
def fInt : FC := fun ds M Q => match ds with
  | [.int i] => Q (.int i) M
  | [.bl b] => Q (.int (if b then 1 else 0)) M
  | _ => False
theorem sim_int {K : PySem.W.Frag} : SimC K (fun xs H Q => (∃ i, xs = [.int i] ∧ Q (.int i) H) ∨ ∃ k, xs = [.bl k] ∧ Q (.int (if k then 1 else 0)) H) fInt := by
  intro Z xs ds H M Q Q' S r f q
  unfold fInt at f
  split at f
  · cases r with
    | cons r1 r2 =>
      cases r2
      cases r1
      exact .inl ⟨_, rfl, q _ _ H M (Go.refl S) (.int _) f⟩
  · cases r with
    | cons r1 r2 =>
      cases r2
      cases r1
      exact .inr ⟨_, rfl, q _ _ H M (Go.refl S) (.int _) f⟩
  · exact f.elim
def fAbs : FC := fun ds M Q => match ds with
  | [.int i] => Q (.int (if i < 0 then -i else i)) M
  | _ => False
theorem sim_abs {K : PySem.W.Frag} : SimC K (fun xs H Q => ∃ i, xs = [.int i] ∧ Q (.int (if i < 0 then -i else i)) H) fAbs := by
  intro Z xs ds H M Q Q' S r f q
  unfold fAbs at f
  split at f
  · cases r with
    | cons r1 r2 =>
      cases r2
      cases r1
      exact ⟨_, rfl, q _ _ H M (Go.refl S) (.int _) f⟩
  · exact f.elim
def f2I (g : Int → Int → Int) : FC := fun ds M Q => match ds with
  | [.int i, .int j] => Q (.int (g i j)) M
  | _ => False
/-- tuple(x), list(x) of a list or a tuple -/
def fTuple : FC := fun ds M Q => match ds with
  | [d] => ∃ es, seqD M d = some es ∧ Q (.tup es) M
  | _ => False
theorem sim_tuple {K : PySem.W.Frag} : SimC K (fun xs H Q => ∃ p ys, xs = [.ref p] ∧ ((SqL K H p ys ∧ ∀ l, H l = none → Q (.ref l) (upd H l (.tup ys))) ∨ (SqT K H p ys ∧ Q (.ref p) H))) fTuple := by
  intro Z xs ds H M Q Q' S r f q
  unfold fTuple at f
  split at f
  · cases r with
    | cons r1 r2 =>
      cases r2
      obtain ⟨es, hs, z⟩ := f
      cases hd : ‹D› with
      | tup us =>
        subst hd
        obtain rfl : us = es := Option.some.inj hs
        cases r1 with
        | tup h1 rl => exact ⟨_, _, rfl, .inr ⟨sqt_mono fz_sub h1, q _ _ H M (Go.refl S) (.tup h1 rl) z⟩⟩
      | lst us =>
        subst hd
        obtain ⟨p, vs, rfl, hv, rl⟩ := lst_of S r1 ⟨0, .inr (by obtain rfl : us = es := Option.some.inj hs; rfl)⟩ hs
        refine ⟨p, vs, rfl, .inl ⟨hv, fun l hl => ?_⟩⟩
        obtain ⟨g, n⟩ := Go.laid (o := .tup vs) S hl
        exact q _ _ _ _ g (.tup (.inl (.inl n)) (rl.up g.ex)) z
      | tok p0 =>
        subst hd
        obtain ⟨p, vs, rfl, hv, rl⟩ := lst_of S r1 ⟨p0, .inl rfl⟩ hs
        refine ⟨p, vs, rfl, .inl ⟨hv, fun l hl => ?_⟩⟩
        obtain ⟨g, n⟩ := Go.laid (o := .tup vs) S hl
        exact q _ _ _ _ g (.tup (.inl (.inl n)) (rl.up g.ex)) z
      | non => subst hd; cases hs
      | bl _ => subst hd; cases hs
      | int _ => subst hd; cases hs
      | str _ => subst hd; cases hs
      | ty _ => subst hd; cases hs
      | exc _ _ _ _ _ => subst hd; cases hs
      | tpl us =>
        subst hd
        obtain rfl : us = es := Option.some.inj hs
        cases r1 with
        | tpl h1 h2 rl => exact ⟨_, _, rfl, .inr ⟨.inl (.inr ⟨_, fz_sub _ _ h1⟩), q _ _ H M (Go.refl S) (.tup (.inl (.inr ⟨_, h1⟩)) rl) z⟩⟩
      | dct _ _ => subst hd; cases hs
  · exact f.elim
def rListA (K : PySem.W.Frag) : List V → Hp → VK → Prop := fun xs H Q => ∃ p ys, xs = [.ref p] ∧ (SqL K H p ys ∨ SqT K H p ys) ∧ ∀ l, H l = none → Q (.ref l) (upd H l (.lst ys))
def fListM : FC := fun ds M Q => match ds with
  | [d] => ∃ es, seqD M d = some es ∧ ∀ p, M p = none → Q (.tok p) (setM M p (.lst es))
  | _ => False
theorem sim_listM {K : PySem.W.Frag} : SimC K (rListA K) fListM := by
  intro Z xs ds H M Q Q' S r f q
  unfold fListM at f
  split at f
  · cases r with
    | cons r1 r2 =>
      cases r2
      obtain ⟨es, hs, z⟩ := f
      obtain ⟨p, vs, rfl, hv, rl⟩ := seq_of S r1 hs
      refine ⟨p, vs, rfl, hv, fun l hl => ?_⟩
      exact q _ _ _ _ (Go.putL S (.inl hl) rl) (.tok l) (z l (S.free hl))
  · exact f.elim
end
end L3
namespace L3
open PySem L2
/-! ### the law's own call -/
theorem law_g {P : Program} {w : World} {K : PySem.W.Frag} {mg mb : Str → Option Value} {k : Nat} {fa a : Addr} {fd : FuncData} {x : Str} {sp : Sp} {s1 : Shared} {vs : List Value} {ns : List Int}
    (KX : K.In s1.heap) (hns : s1.heap.Ns mainGlobals mg) (hb : s1.heap.Ns builtinsNs mb) (hbb : ∀ x : Str, x ≠ "__name__" → mb x = bootBuiltins x) (hlim : s1.heap.NoLimit) (hg : s1.gens = #[])
    (ha : s1.heap.get? a = some { cls := .type "list", data := .seq vs.toArray }) (hi : PyProof.Rows.IntsAre vs ns) (hl : ns.length ≤ sizeLine) (hr : Room k callerA)
    (F : ∀ base : Heap, K.In base → base.Ns mainGlobals mg → FnG P w K mg base k fa fd [x] sp) (hbind : ∀ (s : Shared) (u : Value), BindsTo s fd ⟨[u], []⟩ [(x, u)])
    (hsp : ∀ H : Hp, SqL K H a (ns.map V.int) → sp [.ref a] H (fun v _ => v = .bl true) fun _ _ _ => False) :
    codeAny (model P w) callerA (.call (.ref fa) ⟨[.ref a], []⟩) (fun r s' => r = .ok (.ret (.bool true)) ∧ OldK s1.heap s'.heap ∧ s'.os = s1.os ∧ PyProof.Rows.AllBare s'.gens) s1 := by
  have vals := vals_ints hi
  have hlen := hi.length
  have main : ∀ H : Hp, Only H → SqL K H a (ns.map V.int) → HOk P w H s1.heap → (∀ b, H b ≠ none → b = a) → (H a ≠ none → K.lookup a = none) →
      codeAny (model P w) callerA (.call (.ref fa) ⟨[.ref a], []⟩) (fun r s' => r = .ok (.ret (.bool true)) ∧ OldK s1.heap s'.heap ∧ s'.os = s1.os ∧ PyProof.Rows.AllBare s'.gens) s1 := by
    intro H only sq hok hA hK
    have eqa : ∀ {b : Addr} {u : HO}, H b = some u → b = a := fun {b u} q => hA b (by rw [q]; exact fun z => nomatch z)
    have free : ∀ {b : Addr} {o : Obj}, s1.heap.get? b = some o → o ≠ { cls := .type "list", data := .seq vs.toArray } → H b = none := fun {b o} e d => by
      cases q : H b with
      | none => rfl
      | some u =>
        have e' := eqa q
        subst e'
        rw [ha] at e
        exact absurd (Option.some.inj e).symm d
    have nsK : ∀ {b : Addr} {m : Str → Option Value}, s1.heap.Ns b m → (hidT s1.heap H).Ns b m := fun {b m} ⟨o, es, ep, e, d, r⟩ =>
      ⟨o, es, ep, hidT_get e (free e fun z => by rw [z] at d; exact nomatch d), d, r⟩
    have kin : K.In (hidT s1.heap H) := fun b o e => hidT_get (KX b o e) (by
      cases q : H b with
      | none => rfl
      | some u =>
        have e' := eqa q
        subst e'
        rw [hK (by rw [q]; exact fun z => nomatch z)] at e
        exact nomatch e)
    have md : Mod K mg (hidT s1.heap H) := ⟨kin, nsK hns, ⟨mb, nsK hb, hbb⟩, hlim.elim fun mc h => ⟨mc, nsK h.1, h.2⟩⟩
    have e0 : Env0 P w K mg (hidT s1.heap H) callerA [] s1 H := ⟨rfl, md, fun b o e => of_hidT e, Nat.le_of_eq (hidT_size _ _), trivial, fun b z => absurd z List.not_mem_nil, hok, .of_eq hg⟩
    refine codeAny_mono ((F _ kin (nsK hns)).run callerA [] s1 H ⟨[.ref a], []⟩ [.ref a] [.ref a] _ _ rfl hr e0 (hbind s1 (.ref a)) (.cons rfl .nil) (hsp H sq)) fun r s' h => ?_
    cases r with
    | error e =>
      obtain ⟨_, _, _, _, _, _, _, _, _, _, _, _, z⟩ := h
      exact z.elim
    | ok fl =>
      cases fl with
      | next => exact h.elim
      | brk => exact h.elim
      | cont => exact h.elim
      | ret u =>
        obtain ⟨v, H', os, bare, un, hok', rv, q⟩ := h
        subst q
        obtain rfl : u = Value.bool true := rv
        refine ⟨rfl, OldK.of_keep fun b o e => ?_, os, bare⟩
        cases q : H b with
        | none => exact un.keep b o e q List.not_mem_nil List.not_mem_nil
        | some u =>
          rcases only b with z | ⟨ob, xs, z⟩
          · rw [q] at z
            exact nomatch z
          · have e1 := (hok b _ z).1
            have e2 := (hok' b _ (un.frzs b ob _ z)).1
            rw [e] at e1
            rw [Option.some.inj e1]
            exact e2
  cases hk : K.lookup a with
  | some o =>
    have e := KX a o hk
    rw [ha] at e
    cases e
    exact main (fun _ => none) (fun _ => .inl rfl) (.inr ⟨_, vs.toArray, _, hk, rfl, rfl, rfl, by rw [List.size_toArray, hlen]; exact hl, by simpa using vals⟩) (fun _ _ z => nomatch z) (fun _ z => absurd rfl z) fun z => absurd rfl z
  | none =>
    refine main (fun b => if b = a then some (.frz { cls := .type "list", data := .seq vs.toArray } (.lst (ns.map V.int))) else none) (fun b => ?_) (.inl (.inr ⟨{ cls := .type "list", data := .seq vs.toArray }, if_pos rfl⟩)) (fun b u z => ?_) (fun b z => ?_) fun _ => hk
    · rcases Decidable.em (b = a) with e | e
      · exact .inr ⟨_, _, if_pos e⟩
      · exact .inl (if_neg e)
    · rcases Decidable.em (b = a) with e | e
      · have z' := (if_pos e).symm.trans z
        cases z'
        rw [e]
        exact ⟨ha, by rw [List.length_map]; exact hl, vs, _, vals, ha⟩
      · have z' := (if_neg e).symm.trans z
        cases z'
    · rcases Decidable.em (b = a) with e | e
      · exact e
      · exact absurd (if_neg e) z
theorem walk_g {l : PySem.W.OpenLaw} {n k : Nat} {q : Program} {loose : List Str} {XP : (Str → Option Value) → Heap → Prop} {YP : World → Heap → Prop} {d : DefRec} {K : Params → PySem.W.Frag} {sp : World → Sp} {x : Str}
    (hn : l.most = some n) (hn2 : n ≤ sizeLine) (hdf : d.params.defaults = []) (hr : Room k callerA) (hY : ∀ (w : World) (h : Heap), YP w h → (K w.params).In h)
    (F : ∀ (w : World) (mg : Str → Option Value) (fa : Addr) (h : Heap), (K w.params).In h → h.Ns mainGlobals mg → mg d.name = some (.ref fa) →
      ∃ fd : FuncData, (∀ (s : Shared) (u : Value), BindsTo s fd ⟨[u], []⟩ [(x, u)]) ∧ ∀ base : Heap, (K w.params).In base → base.Ns mainGlobals mg → FnG l.prog w (K w.params) mg base k fa fd [x] (sp w))
    (hsp : ∀ (w : World) (H : Hp) (a : Addr) (ns : List Int), ns.length ≤ n → SqL (K w.params) H a (ns.map V.int) → sp w [.ref a] H (fun v _ => v = .bl true) fun _ _ _ => False) :
    PySem.W.WalkO q loose XP YP l.row.toRowW d [] (fun f vs => PySem.call f vs) := by
  refine Att.attach_call hn hdf fun w s0 s1 mg mb fa o pm cd doc a vs ns G Y ho hd hcd hmg hobj hints hlen hg => ?_
  obtain ⟨fd, hb, hF⟩ := F w mg fa _ (hY w _ Y) G.T.g hmg
  exact law_g (hY w _ Y) G.T.g G.T.b G.T.builtins G.T.nolimit hg hobj hints (Nat.le_trans hlen hn2) hr hF hb fun H hS => hsp w H a ns hlen hS
/-! ### a def of the text with its contract -/
structure Has (P : Program) (w : World) (K : PySem.W.Frag) (mg : Str → Option Value) (base : Heap) (k : Nat) (x : Str) (st : Stmt) (ps : List Str) (F : Fs) : Prop where
  ex : ∃ (f : Addr) (fd : FuncData), FnG P w K mg base k f fd ps (lift K F) ∧ mg x = some (.ref f) ∧ Fun K x x st f fd ∧ Binds K fd ps []
section
variable {X : Cx} {E : WX3} {e a b c : Expr} {es : List Expr} {t ta tb tc te : TE} {w wa wb wc we : WE} {pos p : Pos} {k : Nat} {tr tk : TA} {wr wk : WA} {x : Str} {st : Stmt} {ps : List Str} {F : Fs} {kws : List Keyword}
theorem de_h (h : Has X.prog X.w X.K X.mg X.base k x st ps F) (hr : Room k X.A) (gd : X.A.guards = some []) (ha : DA X (e :: es) tr wr) (hg : Gl X x := by rfl) (hdb : (x == ("__debug__" : Str)) = false := by decide)
    (he : starEach (e :: es) X.env = (false, eval e X.env) :: starEach es X.env := by rfl) (hpl : (backTo pos (starEach es X.env)).any (·.1) = false := by rfl) : DE X (.Call (.Name x p) (e :: es) [] pos) (tCallG (lift X.K F) [] E0 tr) (wCall F wr) := by
  obtain ⟨f, fd, G, hm, Fn, hb⟩ := h.ex
  exact de_call G hr gd hm Fn.kp hb ha hg hdb he hpl
end
theorem Has.mk' {P : Program} {w : World} {K : PySem.W.Frag} {mg : Str → Option Value} {base : Heap} {k : Nat} {x : Str} {st : Stmt} {ps : List Str} {F : Fs} {f : Addr} {fd : FuncData} (Fn : Fun K x x st f fd) (hm : mg x = some (.ref f)) (G : FnG P w K mg base k f fd ps (lift K F))
    (hb : ∀ (kV doc pm : Value) (an : Option Addr) (cdv ct : Value) (us : List Value), us.length = ps.length → bindArgs (PySem.W.fnOf x x (defArgs st) (defBody st) (defScope st) .none kV doc pm an cdv ct) ⟨us, []⟩ = pure (ps.zip us)) : Has P w K mg base k x st ps F := ⟨f, fd, G, hm, Fn, Fn.binds hb⟩
/-! ### the draws -/
def drawF : Fs := fun ds M Q _ => ∃ a a0 n, ds = [.tok a, .int n] ∧ M a = some (.drw a0) ∧ 0 < n ∧ n.natAbs.log2 < 9000 ∧ ∀ k, 0 ≤ k → k < n → Q (.int k) M
/-- one of a list's or tuple's items -/
def pickF : Fs := fun ds M Q _ => ∃ a a0 d es, ds = [.tok a, d] ∧ M a = some (.drw a0) ∧ seqD M d = some es ∧ 0 < es.length ∧ es.length ≤ 1000000 ∧ ∀ x ∈ es, Q x M
end L3
namespace L3
open PySem L2
def fIsq : FC := fun ds M Q => match ds with
  | [.int a] => 0 ≤ a ∧ a < 2 ^ 13000 ∧ Q (.int (Float64.isqrt a.toNat : Nat)) M
  | _ => False
section
variable {X : Cx} {e : Expr} {es : List Expr} {pos p : Pos} {tr : TA} {wr : WA}
/-- a function of another module of Python, taken by name -/
theorem de_callMB {x : Str} {id : String} {r : List V → Hp → VK → Prop} {g : FC} (hc : CallR X (.builtin id) r) (hs : SimC X.K r g) (hm : X.mg x = some (.builtin id)) (ha : DA X (e :: es) tr wr) (hg : Gl X x := by rfl) (hdb : (x == ("__debug__" : Str)) = false := by decide)
    (he : starEach (e :: es) X.env = (false, eval e X.env) :: starEach es X.env := by rfl) (hpl : (backTo pos (starEach es X.env)).any (·.1) = false := by rfl) : DE X (.Call (.Name x p) (e :: es) [] pos) (tCB r tr) (wCB g wr) := ⟨pe_callBfun hc hg hm ha.pe hdb he hpl, sim_CB ha.sm hs⟩
end
end L3
namespace L3
open PySem L2
def fIsB : F2 := fun d e M Q => match d, e with
  | .bl a, .bl b => Q (.bl (decide (a = b))) M
  | _, _ => False
end L3
namespace L3
open PySem L2
/-! ### what the draws need -/
theorem ix_l {K : PySem.W.Frag} {a : Addr} {xs : List V} {k : Int} {y : V} {H : Hp} {Q : VK} (h : H a = some (.lst xs)) (e : atI xs k = some y) (q : Q y H) : rIx K (.ref a) (.int k) H Q :=
  .inl ⟨a, xs, k, y, rfl, rfl, .inl (.inl h), e, q⟩
theorem ne_nil {K : PySem.W.Frag} {a p : Addr} {cs : List Int} {H : Hp} {Q : VK} (h : H a = some (.lst (cs.map V.int))) (hp : H p = some (.lst [])) (q : Q (.bl (decide (cs ≠ []))) H) : rNeD K (.ref a) (.ref p) H Q := by
  have r1 : Rep K H (.ref a) (.lst (cs.map .int)) := .lst (.inl (.inl h)) (.ofInts cs)
  have r2 : Rep K H (.ref p) (.lst []) := .lst (.inl (.inl hp)) .nil
  have f1 : fit 2 (.lst (cs.map .int)) := by
    simp [fit]
  have f2 : fit 2 (.lst []) := by
    simp [fit]
  refine ⟨_, _, Rep.dp 2 _ _ f1 r1, Rep.dp 2 _ _ f2 r2, fit_shaped f1 (by omega), fit_shaped f2 (by omega), ?_⟩
  cases cs with
  | nil => exact q
  | cons c cs => exact q
theorem eq_int {K : PySem.W.Frag} {i j : Int} {H : Hp} {Q : VK} (q : Q (.bl (decide (i = j))) H) : rEqD K (.int i) (.int j) H Q := by
  have f1 : ∀ i : Int, fit 1 (.int i) := fun i => by simp [fit]
  refine ⟨_, _, Rep.dp 1 _ _ (f1 i) (.int i), Rep.dp 1 _ _ (f1 j) (.int j), fit_shaped (f1 i) (by omega), fit_shaped (f1 j) (by omega), ?_⟩
  have e : PyData.eqv (D.py (.int i)) (D.py (.int j)) = decide (i = j) := by
    simp only [D.py, PyData.eqv]
    rfl
  rw [e]
  exact q
theorem at_last {cs : List Int} {c : Int} : atI ((cs ++ [c]).map V.int) (-1) = some (.int c) := by
  have e : ixN ((cs ++ [c]).map V.int).length (-1) = some cs.length := by
    unfold ixN
    simp
    omega
  unfold atI
  rw [e]
  simp
theorem pop_last {a : Addr} {cs : List Int} {c : Int} {H : Hp} {Q : VK} (h : H a = some (.lst ((cs ++ [c]).map V.int))) (q : Q (.int c) (upd H a (.lst (cs.map V.int)))) : rPop (.ref a) [] H Q := by
  refine ⟨a, _, .int c, rfl, rfl, h, by simp, ?_⟩
  rw [List.map_append]
  simpa using q
/-- what stands of the draws -/
structure Dr (H0 : Hp) (a a0 : Addr) (cs : List Int) (s : Int) (H : Hp) : Prop where
  keep : ∀ b o, b ≠ a → b ≠ a0 → H0 b = some o → H b = some o
  ha : H a = some (.lst [.ref a0, .int s])
  h0 : H a0 = some (.lst (cs.map V.int))
  lo : 0 ≤ s
  hi : s < 4294967296
  len : cs.length ≤ 100
  pos : ∀ c ∈ cs, 0 ≤ c
theorem Dr.new {H0 : Hp} {a a0 p : Addr} {cs : List Int} {s : Int} {H : Hp} {o : HO} (h : Dr H0 a a0 cs s H) (hp : H p = none) : Dr H0 a a0 cs s (upd H p o) :=
  ⟨fun b u h1 h2 e => by rw [upd_ne (ne_of_none (h.keep b u h1 h2 e) hp)]; exact h.keep b u h1 h2 e, by rw [upd_ne (ne_of_none h.ha hp)]; exact h.ha, by rw [upd_ne (ne_of_none h.h0 hp)]; exact h.h0, h.lo, h.hi, h.len, h.pos⟩
theorem Dr.ne {H0 : Hp} {a a0 : Addr} {cs : List Int} {s : Int} {H : Hp} (h : Dr H0 a a0 cs s H) : a ≠ a0 := fun e => by
  have z := h.ha
  rw [e, h.h0] at z
  have z2 := HO.lst.inj (Option.some.inj z)
  cases cs with
  | nil => cases z2
  | cons c cs => cases z2
theorem Dr.put {H0 : Hp} {a a0 : Addr} {cs cs' : List Int} {s : Int} {H : Hp} (h : Dr H0 a a0 cs s H) (l : cs'.length ≤ 100) (p : ∀ c ∈ cs', 0 ≤ c) : Dr H0 a a0 cs' s (upd H a0 (.lst (cs'.map V.int))) :=
  ⟨fun b u h1 h2 e => by rw [upd_ne h2]; exact h.keep b u h1 h2 e, by rw [upd_ne h.ne]; exact h.ha, upd_same, h.lo, h.hi, l, p⟩
theorem Dr.stir {H0 : Hp} {a a0 : Addr} {cs : List Int} {s s' : Int} {H : Hp} (h : Dr H0 a a0 cs s H) (l : 0 ≤ s') (u : s' < 4294967296) : Dr H0 a a0 cs s' (upd H a (.lst [.ref a0, .int s'])) :=
  ⟨fun b u h1 h2 e => by rw [upd_ne h1]; exact h.keep b u h1 h2 e, upd_same, by rw [upd_ne h.ne.symm]; exact h.h0, l, u, h.len, h.pos⟩
theorem Dr.ok {H0 : Hp} {a a0 : Addr} {cs : List Int} {s : Int} {H : Hp} (h : Dr H0 a a0 cs s H) : DrawOk H a a0 := ⟨cs, s, h.ha, h.h0, h.lo, h.hi, h.len, h.pos⟩
/-- [xs[::-1], s]: new draws -/
def wDrw (we : WE) (i : Nat) : WE := fun ρ M Q => we ρ M fun d M1 => ∃ (cs : List Int) (s : Int), d = .lst (cs.map .int) ∧ ρ[i]? = some (some (.int s)) ∧ cs.length ≤ 100 ∧ (∀ c ∈ cs, 0 ≤ c) ∧ 0 ≤ s ∧ s < 4294967296 ∧ ∀ p q, M1 p = none → M1 q = none → p ≠ q → Q (.tok q) (setM (setM M1 p .aux) q (.drw p))
section
variable {X : Cx} {e : Expr} {te : TE} {we : WE} {k : Nat} {p1 p2 p3 p4 p5 pos : Pos} {x : Str}
theorem sim_drw {K : PySem.W.Frag} (i : Nat) (he : SimE K te we) : SimE K (tLst (tCons (tRevL K te) (tCons (tVar i) tNil))) (wDrw we i) := by
  intro Z ρ M σ H Q Q' r h q
  refine he Z ρ M σ H _ _ r h fun x d H1 M1 g1 r1 q1 => ?_
  obtain ⟨cs, s, rfl, hi, hl, hpos, s0, s1, q2⟩ := q1
  cases r1 with
  | lst hs rl =>
    obtain rfl := rl.ints
    refine ⟨_, _, rfl, fz_sub.seq hs, fun p hp => ?_⟩
    obtain ⟨v, e1, rv⟩ := r.env.2 i _ hi
    cases rv
    refine ⟨.int s, e1, (by show 2 ≤ sizeLine; decide), fun o ho => ?_⟩
    have npo : p ≠ o := fun z => by
      subst z
      rw [upd_same] at ho
      cases ho
    have ho1 : H1 o = none := by
      rw [upd_ne npo.symm] at ho
      exact ho
    have m1p := g1.sat.free hp
    have m1o := g1.sat.free ho1
    have z1p := g1.sat.freeZ hp
    have z1o := g1.sat.freeZ ho1
    -- the two new lists
    have up : ∀ b u, H1 b = some u → upd (upd H1 p (.lst ((cs.map V.int).reverse))) o (.lst [.ref p, .int s]) b = some u := fun b u e => by
      rw [upd_ne (ne_of_none e ho1), upd_ne (ne_of_none e hp)]
      exact e
    have mo : ∀ b c, b ≠ p → b ≠ o → M1 b = c → setM (setM M1 p .aux) o (.drw p) b = c := fun b c h1 h2 e => by
      rw [setM_ne h2, setM_ne h1]
      exact e
    have mp : setM (setM M1 p .aux) o (.drw p) p = some .aux := by
      rw [setM_ne npo, setM_same]
    have ex : Same (fz Z H1 M1) (fz Z (upd (upd H1 p (.lst ((cs.map V.int).reverse))) o (.lst [.ref p, .int s])) (setM (setM M1 p .aux) o (.drw p))) := fun b u e => by
      obtain ⟨e1, e2, e3⟩ := fz_is e
      exact fz_to (mo b _ (ne_of_none e3 hp) (ne_of_none e3 ho1) e1) e2 (up b u e3)
    have aux : ∀ b, M1 b = some .aux → setM (setM M1 p .aux) o (.drw p) b = some .aux ∧ ∀ u, H1 b = some u → upd (upd H1 p (.lst ((cs.map V.int).reverse))) o (.lst [.ref p, .int s]) b = some u := fun b e => by
      refine ⟨mo b _ (fun z => ?_) (fun z => ?_) e, up b⟩
      · rw [z, m1p] at e
        cases e
      · rw [z, m1o] at e
        cases e
    have er : (cs.map V.int).reverse = cs.reverse.map V.int := by rw [List.map_reverse]
    have sat : Sat K Z (upd (upd H1 p (.lst ((cs.map V.int).reverse))) o (.lst [.ref p, .int s])) (setM (setM M1 p .aux) o (.drw p)) := by
      refine ⟨fun b c hb => ?_, fun b u hb => ?_⟩
      · by_cases h1 : b = o
        · subst h1
          rw [setM_same] at hb
          cases hb
          exact ⟨mp, cs.reverse, s, upd_same, by rw [upd_ne npo, upd_same, er], s0, s1, by rw [List.length_reverse]; exact hl, fun c hc => hpos c (List.mem_reverse.mp hc)⟩
        · by_cases h2 : b = p
          · subst h2
            rw [mp] at hb
            cases hb
            exact ⟨_, by rw [upd_ne npo, upd_same]⟩
          · rw [setM_ne h1, setM_ne h2] at hb
            exact (g1.sat.cell b c hb).same ex (up b) aux
      · obtain ⟨e1, e2⟩ := g1.sat.zed b u hb
        exact ⟨up b u e1, mo b _ (ne_of_none e1 hp) (ne_of_none e1 ho1) e2⟩
    exact q _ _ _ _ ⟨sat, g1.ex.trans ex⟩ (.tok o) (q2 p o m1p m1o npo)
theorem de_drw (i : Nat) (he : DE X e te we) (hN : X.N[i]? = some x := by rfl) (hv : Vis X.env.scope x := by first | exact Or.inl rfl | exact Or.inr (Or.inl rfl) | exact Or.inr (Or.inr rfl)) (hd : (x == ("__debug__" : Str)) = false := by decide)
    (hcd : (x == ("__classdict__" : Str)) = false := by decide) (h1 : starEach [(.Subscript e (.Slice none none (some (.UnaryOp .USub (.Constant (.int 1) k p1) p2)) p3) p4), (.Name x p5)] X.env = (false, eval (.Subscript e (.Slice none none (some (.UnaryOp .USub (.Constant (.int 1) k p1) p2)) p3) p4) X.env) :: starEach [(.Name x p5)] X.env := by rfl)
    (h2 : starEach [(.Name x p5)] X.env = (false, eval (.Name x p5) X.env) :: starEach [] X.env := by rfl) :
    DE X (.List [(.Subscript e (.Slice none none (some (.UnaryOp .USub (.Constant (.int 1) k p1) p2)) p3) p4), (.Name x p5)] pos) (tLst (tCons (tRevL X.K te) (tCons (tVar i) tNil))) (wDrw we i) :=
  ⟨pe_lst (pa_cons (pe_revL he.pe) (pa_cons (pe_var hN hv hd hcd) pa_nil h2) h1), sim_drw i he.sm⟩
end
/-! ### equality: plain values first -/
def rEqV (K : PySem.W.Frag) : R2 := fun x y H Q => rEq x y H Q ∨ rEqD K x y H Q
def rNeV (K : PySem.W.Frag) : R2 := fun x y H Q => rNe x y H Q ∨ rNeD K x y H Q
theorem op_eqV {X : Cx} {k : Nat} (hr : Room k X.A) : OpR X (compareOp .Eq) (rEqV X.K) := op_eq.or (op_eqG hr)
theorem op_neV {X : Cx} {k : Nat} (hr : Room k X.A) : OpR X (compareOp .NotEq) (rNeV X.K) := op_ne.or (op_neG hr)
def eqS : D → D → Option Bool
  | .int i, .int j => some (decide (i = j))
  | .str i, .str j => some (decide (i = j))
  | .bl i, .bl j => some (decide (i = j))
  | _, _ => none
def eqV (neg : Bool) : F2 := fun d e M Q => match eqS d e with
  | some b => Q (.bl (if neg then !b else b)) M
  | none => eqD2 neg d e M Q
theorem eqS_rep {K : PySem.W.Frag} {H : Hp} {x y : V} {d e : D} {b : Bool} (r1 : Rep K H x d) (r2 : Rep K H y e) (h : eqS d e = some b) : scal x y = true ∧ decide (x = y) = b := by
  unfold eqS at h
  split at h
  · cases r1
    cases r2
    refine ⟨rfl, ?_⟩
    rw [← Option.some.inj h]
    exact decide_eq_decide.mpr ⟨fun z => by cases z; rfl, fun z => by rw [z]⟩
  · cases r1
    cases r2
    refine ⟨rfl, ?_⟩
    rw [← Option.some.inj h]
    exact decide_eq_decide.mpr ⟨fun z => by cases z; rfl, fun z => by rw [z]⟩
  · cases r1
    cases r2
    refine ⟨rfl, ?_⟩
    rw [← Option.some.inj h]
    exact decide_eq_decide.mpr ⟨fun z => by cases z; rfl, fun z => by rw [z]⟩
  · cases h
theorem sim_eqV {K : PySem.W.Frag} : SimR K (rEqV K) (eqV false) := by
  intro Z x y d e H M Q Q' S r1 r2 f q
  unfold eqV at f
  split at f
  · rename_i b h
    obtain ⟨h1, h2⟩ := eqS_rep r1 r2 h
    refine .inl ⟨h1, ?_⟩
    rw [h2]
    exact q _ _ H M (Go.refl S) (.bl _) f
  · exact .inr (sim_eq Z x y d e H M Q Q' S r1 r2 f q)
theorem sim_neV {K : PySem.W.Frag} : SimR K (rNeV K) (eqV true) := by
  intro Z x y d e H M Q Q' S r1 r2 f q
  unfold eqV at f
  split at f
  · rename_i b h
    obtain ⟨h1, h2⟩ := eqS_rep r1 r2 h
    refine .inl ⟨h1, ?_⟩
    rw [h2]
    exact q _ _ H M (Go.refl S) (.bl _) f
  · exact .inr (sim_ne Z x y d e H M Q Q' S r1 r2 f q)
end L3
namespace L3
open PySem L2
end L3
namespace L3
open PySem L2
end L3
namespace L3
open PySem L2
end L3
namespace L3
open PySem L2
section
variable {X : Cx} {E : WX3} {e e2 o a b : Expr} {es : List Expr} {pos p p2 tpos apos cpos : Pos} {elts : List Expr} {kk : Nat} {te to ta tb : TE} {we wo wa wb : WE} {tr : TA} {wr : WA}
/-! ### zip of two tuples, or of two lists -/
/-! ### methods of a list of the store -/
def wApp (wo : WE) (r : WA) : WE := fun ρ M Q => wo ρ M fun d M1 => match d with
  | .tok a => (∃ es, M1 a = some (.lst es)) ∧ r ρ M1 fun ds M2 => match ds with
    | [x] => ∃ es, M2 a = some (.lst es) ∧ es.length < sizeLine ∧ Q .non (setM M2 a (.lst (es ++ [x])))
    | _ => False
  | _ => False
theorem de_append (ho : DE X o to wo) (ha : DA X (e :: es) tr wr) (hs : attributeBase o "append" X.env (eval o X.env) = eval o X.env := by rfl)
    (h2 : (((backTo cpos (starEach (e :: es) X.env)).all fun x => !x.1) && ((backToKw cpos (keywordEach [] X.env)).all fun x => x.1.isSome) && decide (((e :: es).length + ([] : List Keyword).length + if ([] : List Keyword).isEmpty = true then 0 else 1) < 30)) = true := by rfl)
    (h3 : (apos.endLine == cpos.line) = true := by rfl) (h4 : starEach (e :: es) X.env = (false, eval e X.env) :: starEach es X.env := by rfl) (h5 : (backTo cpos (starEach es X.env)).any (·.1) = false := by rfl) :
    DE X (.Call (.Attribute o "append" apos) (e :: es) [] cpos) (tBM X.K "list" rAppend to tr) (wApp wo wr) := by
  refine ⟨pe_bm PySem.F.plainAttrs_list PySem.F.slot_list_append PySem.F.type_list_append mt_append ho.pe ha.pe hs h2 h3 h4 h5, fun Z ρ M σ H Q Q' s h q => ?_⟩
  refine ho.sm Z ρ M σ H _ _ s h fun x d H1 M1 g1 r1 q1 => ?_
  cases d with
  | tok a =>
    cases r1
    obtain ⟨⟨es0, hm⟩, q1⟩ := q1
    obtain ⟨vs0, e0, _⟩ := g1.sat.cell a _ hm
    refine ⟨.inl ⟨rfl, _, .inl (.inl e0)⟩, ?_⟩
    refine ha.sm Z ρ M1 σ H1 _ _ (s.go g1) q1 fun ys ds H2 M2 g2 r2 q2 => ?_
    cases r2 with
    | nil => exact q2.elim
    | cons ra rb =>
      cases rb with
      | nil =>
        obtain ⟨es, hm2, hl, q3⟩ := q2
        obtain ⟨vs, e1, rl⟩ := g2.sat.cell a _ hm2
        refine ⟨a, vs, _, rfl, rfl, e1, by rw [rl.len]; exact hl, ?_⟩
        have g3 := Go.putL (p := a) g2.sat (.inr ⟨es, hm2⟩) (rl.app (.cons ra .nil))
        exact q _ _ _ _ ((g1.trans g2).trans g3) .non q3
      | cons _ _ => exact q2.elim
  | _ => exact q1.elim
end
end L3
namespace L3
open PySem L2
/-! ### how readings are walked, a statement at a time -/
theorem seq_gen {u1 u2 : WS} {D : Ends3} {ρ : En} {M : Mp} (h : ∀ K : En → Mp → Prop, K = u2 D → u1 { D with nx := K } ρ M) : wSeq u1 u2 D ρ M := h _ rfl
theorem for_gen {wi : WI} {g : WG} {wb : WS} {D : Ends3} {ρ : En} {M : Mp} (h : ∀ B : WS, B = wb → wFor wi g B D ρ M) : wFor wi g wb D ρ M := h _ rfl
theorem loop_ix {g : WG} {wb : WS} {Ok : Mp → Prop} {D3 : Ends3} {ds : List D} (P : Nat → En → Mp → Prop)
    (hs : ∀ i d ρ M, ds[i]? = some d → P i ρ M → Ok M ∧ ∀ K : En → Mp → Prop, (∀ ρ' M', P (i + 1) ρ' M' → K ρ' M') → g d ρ M fun ρ1 M1 => wb { D3 with nx := K, ct := K, bk := D3.nx } ρ1 M1)
    (he : ∀ ρ M, P ds.length ρ M → Ok M ∧ D3.nx ρ M) : ∀ {ρ M}, P 0 ρ M → wLoop g wb Ok D3 ds ρ M := by
  have main : ∀ (es : List D) (i : Nat), i ≤ ds.length → ds.drop i = es → ∀ ρ M, P i ρ M → wLoop g wb Ok D3 es ρ M := by
    intro es
    induction es with
    | nil =>
      intro i hi e ρ M h
      have l : ds.length ≤ i := List.drop_eq_nil_iff.mp e
      obtain rfl : i = ds.length := Nat.le_antisymm hi l
      exact he ρ M h
    | cons d es ih =>
      intro i hi e ρ M h
      have l : i < ds.length := by
        rcases Nat.lt_or_ge i ds.length with z | z
        · exact z
        · rw [List.drop_eq_nil_of_le z] at e
          cases e
      have e2 := List.drop_eq_getElem_cons l
      rw [e] at e2
      obtain ⟨e3, e4⟩ := List.cons.inj e2
      obtain ⟨ok, k⟩ := hs i d ρ M (by rw [List.getElem?_eq_getElem l, e3]) h
      exact ⟨ok, k _ fun ρ' M' h' => ih (i + 1) l e4.symm ρ' M' h'⟩
  exact fun {ρ M} h => main ds 0 (Nat.zero_le _) rfl ρ M h
theorem intsD_len {lo : Int} {n : Nat} : (intsD lo n).length = n := by
  unfold intsD
  rw [List.length_map, List.length_range]
theorem intsD_get {lo : Int} {n i : Nat} {d : D} (h : (intsD lo n)[i]? = some d) : i < n ∧ d = .int (lo + (i : Int)) := by
  have hi : i < n := by
    have z := (List.getElem?_eq_some_iff.mp h).1
    rw [intsD_len] at z
    exact z
  refine ⟨hi, ?_⟩
  unfold intsD at h
  rw [List.getElem?_map, List.getElem?_range hi] at h
  exact (Option.some.inj h).symm
/-- a comprehension each of whose values is known -/
theorem lc_pure {g : WG} {we : WE} {Ok : Mp → Prop} {ρ : En} {M : Mp} {Q : KD} (f : D → D) (ok : Ok M) : ∀ (ds acc : List D), acc.length + ds.length ≤ 1000000 → (∀ d ∈ ds, ∀ K : KD, K (f d) M → g d ρ M fun ρ1 M1 => we ρ1 M1 K) →
    Q (.lst (acc ++ ds.map f)) M → wLcL g wYes we Ok ρ ds acc M Q
  | [], acc, _, _, q => ⟨ok, by rw [List.map_nil, List.append_nil] at q; exact q⟩
  | d :: ds, acc, hl, hs, q => by
    rw [List.length_cons] at hl
    refine ⟨ok, Nat.lt_of_lt_of_le (by omega : acc.length < 1000000) (by decide), ?_⟩
    have z := hs d List.mem_cons_self (fun y M3 => wLcL g wYes we Ok ρ ds (acc ++ [y]) M3 Q)
      (lc_pure f ok ds (acc ++ [f d]) (by rw [List.length_append, List.length_singleton]; omega) (fun d' h' => hs d' (List.mem_cons_of_mem _ h')) (by rw [List.append_assoc]; exact q))
    exact z
/-- .. each of whose values is one of those that P tells -/
theorem lc_any {g : WG} {we : WE} {Ok : Mp → Prop} {ρ : En} {M : Mp} {Q : KD} (P : D → D → Prop) (ok : Ok M) : ∀ (ds acc : List D), acc.length + ds.length ≤ 1000000 → (∀ d ∈ ds, ∀ K : KD, (∀ y, P d y → K y M) → g d ρ M fun ρ1 M1 => we ρ1 M1 K) →
    (∀ ys : List D, ys.length = ds.length → (∀ (i : Nat) (y : D), ys[i]? = some y → ∃ d, ds[i]? = some d ∧ P d y) → Q (.lst (acc ++ ys)) M) → wLcL g wYes we Ok ρ ds acc M Q
  | [], acc, _, _, q => ⟨ok, by have z := q [] rfl (fun i y h => by rw [List.getElem?_nil] at h; cases h); rw [List.append_nil] at z; exact z⟩
  | d :: ds, acc, hl, hs, q => by
    rw [List.length_cons] at hl
    refine ⟨ok, Nat.lt_of_lt_of_le (by omega : acc.length < 1000000) (by decide), ?_⟩
    have z := hs d List.mem_cons_self (fun y M3 => wLcL g wYes we Ok ρ ds (acc ++ [y]) M3 Q) fun y hy =>
      lc_any P ok ds (acc ++ [y]) (by rw [List.length_append, List.length_singleton]; omega) (fun d' h' => hs d' (List.mem_cons_of_mem _ h')) fun ys hy1 hy2 => by
        rw [List.append_assoc]
        refine q (y :: ys) (by rw [List.length_cons, List.length_cons, hy1]) fun i u hu => ?_
        cases i with
        | zero =>
          rw [List.getElem?_cons_zero] at hu
          exact ⟨d, rfl, (Option.some.inj hu) ▸ hy⟩
        | succ i =>
          rw [List.getElem?_cons_succ] at hu
          rw [List.getElem?_cons_succ]
          exact hy2 i u hu
    exact z
theorem eqV_int {M : Mp} {neg : Bool} {x y : Int} {Q : KD} : eqV neg (.int x) (.int y) M Q ↔ Q (.bl (if neg then !decide (x = y) else decide (x = y))) M := Iff.rfl
theorem eqV_str {M : Mp} {neg : Bool} {x y : Str} {Q : KD} : eqV neg (.str x) (.str y) M Q ↔ Q (.bl (if neg then !decide (x = y) else decide (x = y))) M := Iff.rfl
theorem eqV_bl {M : Mp} {neg : Bool} {x y : Bool} {Q : KD} : eqV neg (.bl x) (.bl y) M Q ↔ Q (.bl (if neg then !decide (x = y) else decide (x = y))) M := Iff.rfl
theorem draw_i {M : Mp} {a a0 : Addr} {n : Int} {Q : KD} {R} (hm : M a = some (.drw a0)) (h0 : 0 < n) (h1 : n.natAbs.log2 < 9000) : drawF [.tok a, .int n] M Q R ↔ ∀ k, 0 ≤ k → k < n → Q (.int k) M := by
  constructor
  · rintro ⟨_, _, _, h, _, _, _, q⟩
    cases h
    exact q
  · exact fun q => ⟨a, a0, n, rfl, hm, h0, h1, q⟩
theorem pick_q {M : Mp} {a a0 : Addr} {d : D} {es : List D} {Q : KD} {R} (hm : M a = some (.drw a0)) (hs : seqD M d = some es) (h0 : 0 < es.length) (h1 : es.length ≤ 1000000) (q : ∀ x ∈ es, Q x M) : pickF [.tok a, d] M Q R := ⟨a, a0, _, es, rfl, hm, hs, h0, h1, q⟩
end L3
namespace L3
open PySem L2
section
variable {X : Cx} {pos : Pos}
/-- the name of a built-in type, as a value -/
theorem de_bty {x : Str} {T : String} (hm : X.mg x = none) (hv : bootBuiltins x = some (.type T)) (hg : Gl X x := by rfl) (hn : x ≠ "__name__" := by decide) (hdb : (x == ("__debug__" : Str)) = false := by decide) : DE X (.Name x pos) (tC (.ty T)) (wC (.ty T)) := by
  refine ⟨⟨fun pins s σ H Q I h => ?_⟩, sim_c fun _ => .ty T⟩
  exact ld_blt I hg hm hv ⟨.ty T, H, I, rfl, h⟩ hn hdb
end
/-- what type data is of -/
def tyD (M : Mp) : D → Option String
  | .non => some "NoneType"
  | .bl _ => some "bool"
  | .int _ => some "int"
  | .str _ => some "str"
  | .tup _ => some "tuple"
  | .lst _ => some "list"
  | .tok a => match M a with
    | some (.lst _) => some "list"
    | some (.dic _ _) => some "dict"
    | _ => none
  | .ty _ => none
  | .exc _ _ _ _ _ => none
  | .tpl _ => none
  | .dct _ _ => some "dict"
def subT (t T : String) : Option Bool := match T with
  | "int" => some (t == "int" || t == "bool")
  | "bool" => some (t == "bool")
  | "str" => some (t == "str")
  | "tuple" => some (t == "tuple")
  | "list" => some (t == "list")
  | "dict" => some (t == "dict")
  | _ => none
def fIsi : FC := fun ds M Q => match ds with
  | [d, .ty T] => ∃ t b, tyD M d = some t ∧ subT t T = some b ∧ Q (.bl b) M
  | _ => False
theorem ty_of {K : PySem.W.Frag} {Z : Hp} {H : Hp} {M : Mp} {x : V} {d : D} {t : String} (S : Sat K Z H M) (r : Rep K (fz Z H M) x d) (h : tyD M d = some t) : TyX K H x (.type t) := by
  cases d with
  | non => cases r; cases h; exact .base .non
  | bl b => cases r; cases h; exact .base (.bl b)
  | int i => cases r; cases h; exact .base (.int i)
  | str y => cases r; cases h; exact .base (.str y)
  | ty _ => cases h
  | tok a =>
    cases r
    have h' : (match M a with | some (.lst _) => some "list" | some (.dic _ _) => some "dict" | _ => none) = some t := h
    cases q : M a with
    | none =>
      rw [q] at h'
      cases h'
    | some c =>
      rw [q] at h'
      cases c with
      | lst ds =>
        cases h'
        obtain ⟨vs, e, _⟩ := S.cell a _ q
        exact .base (.lst e)
      | aux => cases h'
      | drw _ => cases h'
      | tab _ _ => cases h'
      | box => cases h'
      | err _ _ => cases h'
      | ins _ _ => cases h'
      | dic lk kd =>
        cases h'
        obtain ⟨kv, u, e, l, _⟩ := S.cell a _ q
        cases lk with
        | none =>
          cases l
          exact .base (.dK e)
        | some o =>
          rw [l.2] at e
          exact .fDict e
  | exc _ _ _ _ _ => cases h
  | tpl _ => cases h
  | dct _ _ =>
    cases h
    cases r with
    | dct hx _ _ =>
      rcases hx with hx | ⟨o, hx⟩
      · exact .base (.dK (fz_sub _ _ hx))
      · exact .fDict (fz_sub _ _ hx)
  | tup ds =>
    cases h
    cases r with
    | tup hs _ =>
      rcases sqt_mono fz_sub hs with (e | ⟨o, e⟩) | ⟨o, its, n, e, c, _⟩
      · exact .base (.tup e)
      · exact .fTuple e
      · exact .kTuple e c
  | lst ds =>
    cases h
    cases r with
    | lst hs _ =>
      rcases fz_sub.seq hs with (e | ⟨o, e⟩) | ⟨o, its, n, e, c, _⟩
      · exact .base (.lst e)
      · exact .base (.frz e)
      · exact .kList e c
theorem kit_of (K : PySem.W.Frag) {M : Mp} {d : D} {t T : String} {b : Bool} (h : tyD M d = some t) (hs : subT t T = some b) : PySem.W.kitOne K (.type t) (.type T) = some b := by
  have ht : t = "NoneType" ∨ t = "bool" ∨ t = "int" ∨ t = "str" ∨ t = "tuple" ∨ t = "list" ∨ t = "dict" := by
    cases d with
    | non => cases h; simp
    | bl _ => cases h; simp
    | int _ => cases h; simp
    | str _ => cases h; simp
    | tup _ => cases h; simp
    | lst _ => cases h; simp
    | ty _ => cases h
    | exc _ _ _ _ _ => cases h
    | tpl _ => cases h
    | dct _ _ => cases h; simp
    | tok a =>
      have h' : (match M a with | some (.lst _) => some "list" | some (.dic _ _) => some "dict" | _ => none) = some t := h
      cases q : M a with
      | none =>
        rw [q] at h'
        cases h'
      | some c =>
        rw [q] at h'
        cases c with
        | lst ds => cases h'; simp
        | aux => cases h'
        | drw _ => cases h'
        | tab _ _ => cases h'
        | box => cases h'
        | err _ _ => cases h'
        | ins _ _ => cases h'
        | dic _ _ => cases h'; simp
  unfold subT at hs
  split at hs
  · rcases ht with rfl | rfl | rfl | rfl | rfl | rfl | rfl <;> (cases hs; rfl)
  · rcases ht with rfl | rfl | rfl | rfl | rfl | rfl | rfl <;> (cases hs; rfl)
  · rcases ht with rfl | rfl | rfl | rfl | rfl | rfl | rfl <;> (cases hs; rfl)
  · rcases ht with rfl | rfl | rfl | rfl | rfl | rfl | rfl <;> (cases hs; rfl)
  · rcases ht with rfl | rfl | rfl | rfl | rfl | rfl | rfl <;> (cases hs; rfl)
  · rcases ht with rfl | rfl | rfl | rfl | rfl | rfl | rfl <;> (cases hs; rfl)
  · cases hs
/-- isinstance(x, T) -/
theorem sim_isi {K : PySem.W.Frag} : SimC K (rIsi K) fIsi := by
  intro Z xs ds H M Q Q' S r f q
  unfold fIsi at f
  split at f
  · cases r with
    | cons r1 r2 =>
      cases r2 with
      | cons r2 r3 =>
        cases r3
        cases r2
        obtain ⟨t, b, h1, h2, z⟩ := f
        exact ⟨_, _, _, _, b, rfl, .ty _, ty_of S r1 h1, kit_of K h1 h2, q _ _ H M (Go.refl S) (.bl _) z⟩
  · exact f.elim
end L3
namespace L3
open PySem L2
/-! ### min, max of any data that can be compared -/
end L3
namespace L3
open PySem L2
/-! ### iterators that hand out new tuples: their turns from the library's walks -/
end L3
namespace L3
open PySem L2
theorem vals_at {xs : List V} {its : List Value} {i : Nat} {x : Value} (r : Vals xs its) (h : its.toArray[i]? = some x) : RelV (xs.getD i .non) x := by
  have h' : its[i]? = some x := by simpa using h
  have li := (List.getElem?_eq_some_iff.mp h').1
  have l1 := r.length
  obtain ⟨u, e2, ru⟩ := r.get (List.getElem?_eq_getElem (by omega : i < xs.length))
  rw [h'] at e2
  obtain rfl : x = u := Option.some.inj e2
  rw [List.getD_eq_getElem?_getD, List.getElem?_eq_getElem (by omega)]
  exact ru
/-! ### zip of three tuples -/
/-! by data -/
theorem rep_getd {K : PySem.W.Frag} {H : Hp} {vs : List V} {ds : List D} (r : RepL K H vs ds) (i : Nat) (h : i < ds.length) : Rep K H (vs.getD i .non) (ds.getD i .non) := by
  obtain ⟨v, e1, e2⟩ := r.get (List.getElem?_eq_getElem h)
  rw [List.getD_eq_getElem?_getD, List.getD_eq_getElem?_getD, e1, List.getElem?_eq_getElem h]
  exact e2
end L3
namespace L3
open PySem L2
/-! ### max of three ints -/
end L3
namespace L3
open PySem L2
/-! ### vectors, distances, what lies beyond: the mathematics -/
def vec (v : List Int) : D := .tup (v.map .int)
/-- small numbers -/
def sm (v : List Int) : Prop := v.length ≤ 64 ∧ ∀ a ∈ v, -30000000 ≤ a ∧ a ≤ 30000000
def rt (n : Int) : Int := (Float64.isqrt n.toNat : Nat)
def sq (k : Str) : Bool := decide (k = "square")
def nb (a : Int) : Prop := 0 ≤ a ∧ a < 2 ^ 50
theorem p4 {a b : Int} (ha : 0 ≤ a) (hb : 0 ≤ b) : 0 ≤ 4 * a * b := Int.mul_nonneg (by omega) hb
end L3
namespace L3
open PySem L2
/-! the squares -/
/-! ### joining -/
/-! ### regions -/
inductive Rg where
  | ball (c : List Int) (r : Int) | box (l h : List Int) | cell (c : List Int) (a b : Int)
def Rg.d : Rg → D
  | .ball c r => .tup [.str "ball", vec c, .int r]
  | .box l h => .tup [.str "box", vec l, vec h]
  | .cell c a b => .tup [.str "cell", vec c, .int a, .int b]
/-- vectors of so many places with parts to B -/
def vk (p : Nat) (B : Int) (v : List Int) : Prop := v.length = p ∧ ∀ a ∈ v, -B ≤ a ∧ a ≤ B
/-! ### places of short tuples, lists -/
theorem ix_t0 {a : D} {l : List D} {M : Mp} {Q : KD} : ixD (.tup (a :: l)) (.int 0) M Q ↔ Q a M := by
  constructor
  · rintro ⟨ds, x, h, e, q⟩
    cases h
    simp [atI, ixN] at e
    exact e ▸ q
  · exact fun q => ⟨_, a, rfl, by simp [atI, ixN], q⟩
theorem ix_t1 {a b : D} {l : List D} {M : Mp} {Q : KD} : ixD (.tup (a :: b :: l)) (.int 1) M Q ↔ Q b M := by
  have z : (1 : Int) < (l.length : Int) + 1 + 1 := by omega
  constructor
  · rintro ⟨ds, x, h, e, q⟩
    cases h
    simp [atI, ixN, z] at e
    exact e ▸ q
  · exact fun q => ⟨_, b, rfl, by simp [atI, ixN, z], q⟩
theorem ix_t2 {a b c : D} {l : List D} {M : Mp} {Q : KD} : ixD (.tup (a :: b :: c :: l)) (.int 2) M Q ↔ Q c M := by
  constructor
  · rintro ⟨ds, x, h, e, q⟩
    cases h
    have z : (2 : Int) < (l.length : Int) + 1 + 1 + 1 := by omega
    simp [atI, ixN, z] at e
    exact e ▸ q
  · exact fun q => ⟨_, c, rfl, by
      have z : (2 : Int) < (l.length : Int) + 1 + 1 + 1 := by omega
      simp [atI, ixN, z], q⟩
theorem ix_t3 {a b c d : D} {M : Mp} {Q : KD} : ixD (.tup [a, b, c, d]) (.int 3) M Q ↔ Q d M := by
  constructor
  · rintro ⟨ds, x, h, e, q⟩
    cases h
    simp [atI, ixN] at e
    exact e ▸ q
  · exact fun q => ⟨_, d, rfl, by simp [atI, ixN], q⟩
theorem ix_m3 {a b c : D} {M : Mp} {Q : KD} : ixD (.tup [a, b, c]) (.int (-1)) M Q ↔ Q c M := by
  constructor
  · rintro ⟨ds, x, h, e, q⟩
    cases h
    simp [atI, ixN] at e
    exact e ▸ q
  · exact fun q => ⟨_, c, rfl, by simp [atI, ixN], q⟩
theorem ix_m4 {a b c d : D} {M : Mp} {Q : KD} : ixD (.tup [a, b, c, d]) (.int (-1)) M Q ↔ Q d M := by
  constructor
  · rintro ⟨ds, x, h, e, q⟩
    cases h
    simp [atI, ixN] at e
    exact e ▸ q
  · exact fun q => ⟨_, d, rfl, by simp [atI, ixN], q⟩
/-! names -/
theorem sn_ball_box : (("ball" : Str) = "box") = False := eq_false (by decide +kernel)
theorem sn_cell_box : (("cell" : Str) = "box") = False := eq_false (by decide +kernel)
theorem sn_cell_ball : (("cell" : Str) = "ball") = False := eq_false (by decide +kernel)
theorem sn_ball_cell : (("ball" : Str) = "cell") = False := eq_false (by decide +kernel)
theorem sn_box_ball : (("box" : Str) = "ball") = False := eq_false (by decide +kernel)
theorem sn_box_cell : (("box" : Str) = "cell") = False := eq_false (by decide +kernel)
end L3
namespace L3
open PySem L2
/-- a zip whose handed out tuple may be another's by now -/
def IsZipB (h : Heap) (z TI TO : Addr) (x : Value) (b : Bool) : Prop := h.get? z = some { cls := .type "zip", dict := none, data := .fields #[x, .bool b, .bool false, .ref TI, .ref TO], slots := #[] }
abbrev ZI := Addr × Addr × Array Value
structure ZApart (z TI TO : Addr) (its : List ZI) : Prop where
  zTI : TI ≠ z
  zTO : TO ≠ z
  TT : TI ≠ TO
  iz : ∀ q ∈ its, q.1 ≠ z ∧ q.1 ≠ TI ∧ q.1 ≠ TO
  tz : ∀ q ∈ its, q.2.1 ≠ z ∧ q.2.1 ≠ TO
  ti : ∀ q ∈ its, ∀ r ∈ its, q.2.1 ≠ r.1
  nd : (its.map (·.1)).Nodup
section
variable {prog : Program} {w : World} {A : Around} {E : Value → Shared → Prop} {s : Shared} {z TI TO : Addr} {its : List ZI} {i : Nat}
/-- what is drawn stands -/
structure ZState (h : Heap) (z TI TO : Addr) (its : List ZI) (i : Nat) (x : Value) (b : Bool) (old : List Value) : Prop where
  zip : IsZipB h z TI TO x b
  ti : h.get? TI = some { cls := .type "tuple", data := .seq (its.map fun q => Value.ref q.1).toArray }
  out : h.get? TO = some { cls := .type "tuple", data := .seq old.toArray }
  len : old.length = its.length
  iter : ∀ q ∈ its, h.IsTupleIter q.1 q.2.1 i
  tup : ∀ q ∈ its, h.IsTuple q.2.1 q.2.2
structure ZLoop (hp h : Heap) (z TI TO : Addr) (its pre suf : List ZI) (i : Nat) (x : Value) (b : Bool) (out : List Value) : Prop where
  split : its = pre ++ suf
  zip : IsZipB h z TI TO x b
  ti : h.get? TI = some { cls := .type "tuple", data := .seq (its.map fun q => Value.ref q.1).toArray }
  out : h.get? TO = some { cls := .type "tuple", data := .seq out.toArray }
  done : ∀ q ∈ pre, h.IsTupleIter q.1 q.2.1 (i + 1)
  left : ∀ q ∈ suf, h.IsTupleIter q.1 q.2.1 i
  tup : ∀ q ∈ its, h.IsTuple q.2.1 q.2.2
  keep : ∀ c o, c ≠ z → c ≠ TO → c ∉ its.map (·.1) → hp.get? c = some o → h.get? c = some o
  size : h.objs.size = hp.objs.size
theorem ZLoop.put {hp h h' : Heap} {pre suf : List ZI} {x : Value} {b : Bool} {out out' : List Value} (D : ZApart z TI TO its) (L : ZLoop hp h z TI TO its pre suf i x b out) (sb : Heap.SameBut TO h h') (ho : h'.get? TO = some { cls := .type "tuple", data := .seq out'.toArray }) : ZLoop hp h' z TI TO its pre suf i x b out' := by
  have m1 : ∀ r ∈ pre, r ∈ its := fun r hr => by rw [L.split]; exact List.mem_append_left _ hr
  have m2 : ∀ r ∈ suf, r ∈ its := fun r hr => by rw [L.split]; exact List.mem_append_right _ hr
  exact ⟨L.split, sb.extBut _ _ (Ne.symm D.zTO) L.zip, sb.extBut _ _ D.TT L.ti, ho, fun r hr => (L.done r hr).at fun o e => sb.extBut _ _ (D.iz r (m1 r hr)).2.2 e, fun r hr => (L.left r hr).at fun o e => sb.extBut _ _ (D.iz r (m2 r hr)).2.2 e,
    fun r hr => (L.tup r hr).at fun o e => sb.extBut _ _ (D.tz r hr).2 e, fun c o c1 c2 c3 e => sb.extBut _ _ c2 (L.keep c o c1 c2 c3 e), by rw [sb.1, L.size]⟩
def zval (i : Nat) (q : ZI) : Value := q.2.2.getD i .none
/-! next -/
end
end L3
namespace L3
open PySem L2
end L3
namespace L3
open PySem L2
/-! ### a zip is made -/
end L3
namespace L3
open PySem L2
/-! ### list(zip(..)) of any number of tuples of one length -/
inductive ZRel : List (Addr × List V) → List ZI → Prop
  | nil : ZRel [] []
  | cons {c : Addr × List V} {q : ZI} {cs : List (Addr × List V)} {its : List ZI} : q.2.1 = c.1 → Vals c.2 q.2.2.toList → ZRel cs its → ZRel (c :: cs) (q :: its)
def zrow (cs : List (Addr × List V)) (i : Nat) : List V := cs.map fun c => c.2.getD i .non
theorem ZRel.row {i : Nat} : ∀ {cs : List (Addr × List V)} {its : List ZI}, ZRel cs its → (∀ q ∈ its, i < q.2.2.size) → Vals (zrow cs i) (its.map (zval i))
  | _, _, .nil, _ => .nil
  | _, _, .cons (q := q) e v r, h => by
    refine .cons (vals_at v ?_) (ZRel.row r fun q' hq => h q' (List.mem_cons_of_mem _ hq))
    rw [Array.toArray_toList]
    unfold zval
    rw [Array.getD_eq_getD_getElem?, Array.getElem?_eq_getElem (h q List.mem_cons_self)]
    rfl
theorem ZRel.len : ∀ {cs : List (Addr × List V)} {its : List ZI}, ZRel cs its → its.length = cs.length
  | _, _, .nil => rfl
  | _, _, .cons _ _ r => by rw [List.length_cons, List.length_cons, r.len]
section
variable {X : Cx} {pins : List (Addr × Obj)} {σ : L2.St} {z TI TO S : Addr} {its : List ZI} {cs : List (Addr × List V)} {n : Nat} {A1 : Around}
theorem ZState.keep {h h' : Heap} {i : Nat} {x : Value} {b : Bool} {old : List Value} (st : ZState h z TI TO its i x b old) (k : ∀ c o, c ∈ z :: TI :: TO :: (its.map (·.1) ++ its.map (·.2.1)) → h.get? c = some o → h'.get? c = some o) : ZState h' z TI TO its i x b old :=
  ⟨k _ _ (by simp) st.zip, k _ _ (by simp) st.ti, k _ _ (by simp) st.out, st.len, fun q hq => (st.iter q hq).at fun o e => k _ _ (by simp; exact .inr (.inr (.inr (.inl ⟨_, _, hq⟩)))) e, fun q hq => (st.tup q hq).at fun o e => k _ _ (by simp; exact .inr (.inr (.inr (.inr ⟨_, _, hq⟩)))) e⟩
end
end L3
namespace L3
open PySem L2
end L3
namespace L3
open PySem L2
/-! ### by data -/
inductive CRel (K : PySem.W.Frag) (H : Hp) : List (Addr × List V) → List (List D) → Prop
  | nil : CRel K H [] []
  | cons {c : Addr × List V} {xs : List D} {cs : List (Addr × List V)} {xss : List (List D)} : SqT K H c.1 c.2 → RepL K H c.2 xs → CRel K H cs xss → CRel K H (c :: cs) (xs :: xss)
theorem CRel.len {K : PySem.W.Frag} {H : Hp} : ∀ {cs : List (Addr × List V)} {xss : List (List D)}, CRel K H cs xss → cs.length = xss.length
  | _, _, .nil => rfl
  | _, _, .cons _ _ r => by rw [List.length_cons, List.length_cons, r.len]
theorem CRel.row {K : PySem.W.Frag} {H : Hp} {n i : Nat} (hi : i < n) : ∀ {cs : List (Addr × List V)} {xss : List (List D)}, CRel K H cs xss → (∀ xs ∈ xss, xs.length = n) → RepL K H (zrow cs i) (xss.map fun xs => xs.getD i .non)
  | _, _, .nil, _ => .nil
  | _, _, .cons h1 h2 r, h => .cons (rep_getd h2 i (by rw [h _ List.mem_cons_self]; exact hi)) (r.row hi fun xs hx => h xs (List.mem_cons_of_mem _ hx))
end L3
namespace L3
open PySem L2
/-! ### a string in a list or tuple of strings -/
end L3
namespace L3
open PySem L2
/-! ### comprehensions over what is mapped, filtered -/
end L3
namespace L3
open PySem L2
/-! ### what is raised -/
/-- an expression out of which something may be raised -/
def SimX (K : PySem.W.Frag) (W : WX3) (t : TE) (w : XR → WE) : Prop := ∀ (xr : XR) (Z : Hp) (ρ : En) (M : Mp) (σ : L2.St) (H : Hp) (Q : KD) (Q' : VK), R3 K Z ρ M σ H → w xr ρ M Q → (∀ v d H' M', Go K Z H M H' M' → Rep K (fz Z H' M') v d → Q d M' → Q' v H') →
  (∀ x C dx vs (fs : XV) H' M', ClsAt K x C → Go K Z H M H' M' → fz Z H' M' dx = some (.xd (fs.1.zip vs)) → fs.1.length = vs.length → RepL K (fz Z H' M') vs fs.2 → xr x dx fs ρ M' → W (.ref C) (some dx) σ H') → t σ H Q'
structure DX (X : Cx) (W : WX3) (e : Expr) (t : TE) (w : XR → WE) : Prop where
  pe : PE X e t
  sm : SimX X.K W t w
section
variable {X : Cx} {W : WX3} {e : Expr} {es : List Expr} {t te : TE} {we : WE} {wx : XR → WE} {pos p : Pos} {k : Nat} {tr tk : TA} {wr wk : WA} {x : Str} {st : Stmt} {ps : List Str} {F : Fs} {kws : List Keyword} {f : Addr} {fd : FuncData} {sp : Sp} {E : L2.St → XK}
theorem run_gX {pins : List (Addr × Obj)} {σ : L2.St} {H : Hp} {s : Shared} {Q : VK} {us ws : List Value} {vs : List V} {kw : List (Str × Value)} (G : FnG X.prog X.w X.K X.mg X.base k f fd ps sp) (hr : Room k X.A) (gd : X.A.guards = some [])
    (hx : PassesAt (L2.CX X.prog X.w) X σ (E σ)) (I : Inv X pins σ H s) (hb : BindsTo s fd ⟨us, kw⟩ (ps.zip ws)) (r : Vals vs ws) (h : sp vs H Q (E σ)) : wpAny (model X.prog X.w) X.A (call (.ref f) us kw) (EP X pins σ Q) X.xe s := by
  refine wpAny_call (codeAny_mono (G.run X.A X.stack s H ⟨us, kw⟩ ws vs Q (E σ) gd hr I.env0 hb r h) fun rr s' hq => ?_)
  cases rr with
  | error er => exact hx pins H s er s' I hq
  | ok fl =>
    cases fl with
    | ret u => exact I.after hq
    | next => exact hq.elim
    | brk => exact hq.elim
    | cont => exact hq.elim
/-! statements with such an expression -/
def wRetX (w : XR → WE) : WS := fun D ρ M => w D.xr ρ M D.rt
theorem ds_retX (he : DX X W e te wx) : DS X W (.Return (some e) pos) (tRet te) (wRetX wx) :=
  ⟨ps_ret he.pe, fun Z D3 ρ M σ H D r h en => he.sm D3.xr Z ρ M σ H _ _ r h (fun v d H1 M1 g r1 q => en.rt v d H1 M1 g r1 q) fun x C dx vs fs H1 M1 ca g e1 l1 r1 z => en.xr x C dx vs fs ρ σ H1 M1 ca (r.go g) g e1 l1 r1 z⟩
end
end L3
namespace L3
open PySem L2
/-! ### own classes of errors: their making, their raising -/
/-- what an own __init__ does that stores its parameters -/
def spI (K : PySem.W.Frag) (ns : List Str) : Sp := fun vs H Q _ => ∃ (a C : Addr) (ys : List V), vs = .ref a :: ys ∧ ys.length = ns.length ∧ OexC K C ∧ (∀ f ∈ ns, PySem.W.findIn K (.ref C) f = some none) ∧ H a = some (exo a C none) ∧
  ∀ dx, H dx = none → dx ≠ a → Q .non (upd (upd H dx (exd dx (ns.zip ys).reverse)) a (exo a C (some dx)))
/-- a class of errors by its name, with its fields as __init__ stores them -/
structure Err (P : Program) (w : World) (K : PySem.W.Frag) (mg : Str → Option Value) (base : Heap) (k : Nat) (x : Str) (ps ns : List Str) : Prop where
  ex : ∃ (C fI : Addr) (fd : FuncData), ClsAt K x C ∧ mg x = some (.ref C) ∧ OexC K C ∧ XfC K C ∧ PySem.W.findIn K (.ref C) "__init__" = some (some (.ref fI)) ∧ PySem.W.typeIn K (.ref fI) = some (.type "function") ∧
    (∀ f ∈ ns, PySem.W.findIn K (.ref C) f = some none) ∧ FnOk P w K mg base (L2.CX P w) k fI fd ps (spI K ns) ∧ Binds K fd ps []
/-- raise x(..) -/
def wRaise (x : Str) (ns : List Str) (wr : WA) : WS := fun D ρ M => wr ρ M fun ds M1 => ds.length = ns.length ∧ ds.length ≤ 1000 ∧ ∀ dx, D.xr x dx (ns.reverse, ds.reverse) ρ M1
theorem zip_rev {α β : Type} {xs : List α} {ys : List β} (h : xs.length = ys.length) : (xs.zip ys).reverse = xs.reverse.zip ys.reverse := by
  unfold List.zip
  exact List.reverse_zipWith h
theorem RepL.rev {K : PySem.W.Frag} {H : Hp} : ∀ {vs : List V} {ds : List D}, RepL K H vs ds → RepL K H vs.reverse ds.reverse
  | _, _, .nil => .nil
  | _, _, .cons r t => by
    rw [List.reverse_cons, List.reverse_cons]
    exact t.rev.app (.cons r .nil)
section
variable {X : Cx} {W : WX3} {e : Expr} {es : List Expr} {tr : TA} {wr : WA} {x : Str} {ps ns : List Str} {k : Nat} {p pos pos2 : Pos}
theorem ds_raise (h : Err X.prog X.w X.K X.mg X.base k x ps ns) (hc : X.calm = true) (hr : Room (k + 1) X.A) (tw : Takes X W) (ha : DA X (e :: es) tr wr) (hg : Gl X x := by rfl)
    (hdb : (x == ("__debug__" : Str)) = false := by decide) (he : starEach (e :: es) X.env = (false, eval e X.env) :: starEach es X.env := by rfl) (hpl : (backTo pos (starEach es X.env)).any (·.1) = false := by rfl) :
    ∃ t, DS X W (.Raise (some (.Call (.Name x p) (e :: es) [] pos)) none pos2) t (wRaise x ns wr) := by
  obtain ⟨C, fI, fd, hcl, hm, T, _, iC, tI, hno, F1, hb⟩ := h.ex
  refine ⟨_, ps_raise hc tw (pmk_oex T iC tI F1 hr hb .nil passL hg hm ha.pe hdb he hpl), fun Z D3 ρ M σ H D r h en => ?_⟩
  refine ha.sm Z ρ M σ H _ _ r h fun vs ds H1 M1 g1 r1 ⟨l1, l2, q1⟩ => ⟨by rw [r1.len]; exact l2, fun a hna => ?_⟩
  refine ⟨a, C, vs, by rw [List.append_nil], by rw [r1.len]; exact l1, T, hno, upd_same, fun dx hdx hne => ⟨rfl, dx, (ns.zip vs).reverse, upd_same, ?_, ?_, ?_⟩⟩
  · rw [upd_ne hne, upd_same]
  · rwa [upd_ne hne] at hdx
  · rw [upd_ne hne] at hdx
    have eq : upd (L2.del (upd (upd (upd H1 a (exo a C none)) dx (exd dx (ns.zip vs).reverse)) a (exo a C (some dx))) a) dx (.xd (ns.zip vs).reverse) = upd H1 dx (.xd (ns.zip vs).reverse) := by
      funext b
      by_cases hb : b = dx
      · subst hb
        rw [upd_same, upd_same]
      · rw [upd_ne hb, upd_ne hb]
        by_cases hb2 : b = a
        · subst hb2
          rw [L2.del_same, hna]
        · rw [L2.del_ne hb2, upd_ne hb2, upd_ne hb, upd_ne hb2]
    show W (.ref C) (some dx) σ (upd (L2.del (upd (upd (upd H1 a (exo a C none)) dx (exd dx (ns.zip vs).reverse)) a (exo a C (some dx))) a) dx (.xd (ns.zip vs).reverse))
    rw [eq]
    have l3 : ns.length = vs.length := by rw [r1.len]; exact l1.symm
    obtain ⟨g2, n2⟩ := Go.laid (p := dx) (o := .xd (ns.zip vs).reverse) g1.sat hdx
    rw [zip_rev l3] at g2 n2 ⊢
    exact en.xr x C dx vs.reverse (ns.reverse, ds.reverse) ρ σ _ M1 hcl (r.go (g1.trans g2)) (g1.trans g2) n2 (by rw [List.length_reverse, List.length_reverse]; exact l3) (r1.rev.up g2.ex) (q1 dx)
end
theorem takes_top {P : Program} {w : World} {K : PySem.W.Frag} {mg : Str → Option Value} {base : Heap} {N : List Str} {qual : Str} {sc : Scope} {f : Addr} {cdv : Value} {A : Around} {outer : List Env} {s : Shared} {H : Hp} {E : XK} :
    Takes (cxOf (L2.CX P w) P w K mg base N qual sc f cdv A outer s H E) (lw E) := takes_of rfl rfl rfl rfl
end L3
namespace L3
open PySem L2
/-! ### try -/
/-- a context that never is -/
theorem takes_void {X : Cx} {W : WX3} {o : Obj} : Takes (X.tr [(X.env.locals, o)] (fun _ _ => False)) W := fun u s' ⟨a, B, sI, pins, σ, H, cls, d, e, I, _⟩ => by
  have z := I.pin (X.env.locals, o) (List.mem_append_left _ List.mem_cons_self)
  exact z.2.2.1 rfl
theorem RelS.gone {K : PySem.W.Frag} {H : Hp} {σ : L2.St} {ρ : En} (h : RelS K H σ ρ) (j : Nat) : RelS K H (σ.set j none) (ρ.set j none) := by
  refine ⟨by rw [List.length_set, List.length_set]; exact h.1, fun i e q => ?_⟩
  by_cases hij : i = j
  · subst hij
    by_cases hl : i < ρ.length
    · rw [List.getElem?_set_self hl] at q
      cases q
    · rw [List.getElem?_eq_none (by rw [List.length_set]; omega)] at q
      cases q
  · rw [List.getElem?_set_ne (Ne.symm hij)] at q ⊢
    exact h.2 i e q
/-- the context, to be named -/
structure CxIs (X : Cx) : Prop where
/-- a table of classes, by their names, against the class that a clause names -/
def Hits (K : PySem.W.Frag) (c : Value) (hit : Str → Option Bool) : Prop := ∀ (y : Str) (C : Addr) (b : Bool), ClsAt K y C → hit y = some b → PySem.W.exmOne K (.ref C) c = some b
/-- nothing -/
def o0 : Obj := ⟨.none, none, .fields #[], #[]⟩
def tsOf (K : PySem.W.Frag) (hit : Str → Option Bool) (ts : Addr → Str → Addr → Addr → Obj → List (Addr × Obj) → TS) (a : Addr) (cls : Value) (d : Option Addr) : TS := fun D σ H => ∃ y C dx, cls = .ref C ∧ d = some dx ∧ ClsAt K y C ∧ hit y = some true ∧ ts a y C dx o0 [] D σ H
section
variable {X : Cx} {W : WX3} {x n : Str} {c : Value} {i : Nat} {body suite : List Stmt} {b₀ : Stmt} {np pos pos' : Pos} {tb : WX3 → List (Addr × Obj) → (Value → Shared → Prop) → TS} {ts : Addr → Str → Addr → Addr → Obj → List (Addr × Obj) → TS} {wb : WS} {ws : Addr → Str → Addr → WS} {hit : Str → Option Bool}
theorem suite_pe (hS : ∀ (a : Addr) (oe : Obj) (y : Str) (C dx : Addr) (pn : List (Addr × Obj)), CxIs X → Zc (.ref C) (some dx) oe → (∃ vs, oe.data = .fields vs) → ClsAt X.K y C → hit y = some true → DSs (X.suite a ((a, oe) :: pn)) (fun _ _ _ _ => False) (b₀ :: suite) (ts a y C dx oe pn) (ws a y dx))
    (hts : ∀ a y C dx oe pn, ts a y C dx oe pn = ts a y C dx o0 []) (a : Addr) (oe : Obj) (cls : Value) (d : Option Addr) (pn : List (Addr × Obj)) (z : Zc cls d oe) (f : ∃ vs, oe.data = .fields vs) : PSs (X.suite a ((a, oe) :: pn)) (b₀ :: suite) (tsOf X.K hit ts a cls d) := by
  refine ⟨fun pins s σ H D I ⟨y, C, dx, e1, e2, ca, hy, h⟩ => ?_⟩
  subst e1
  subst e2
  rw [← hts a y C dx oe pn] at h
  exact (hS a oe y C dx pn ⟨⟩ z f ca hy).pe.run pins s σ H D I h
end
/-! ### in an except suite -/
/-- what a class of errors says of itself -/
structure ErrF (K : PySem.W.Frag) (C : Addr) : Prop where
  xf : XfC K C
  cl : (PySem.W.clsIn K C).isSome = true
  ha : PySem.W.findIn K (.ref C) "__class__" = some (some (.builtin "object.__class__"))
  hn : PySem.W.specialIn K (.builtin "object.__class__") "__get__" = some (some (.builtin "getset_descriptor.__get__"))
  ht : PySem.W.takesIn K (.builtin "object.__class__") = some true
  hm : PySem.W.mroIn K C (.type "object") = some true
section
variable {X : Cx} {a C dx : Addr} {oe : Obj} {y f x : Str} {pn : List (Addr × Obj)} {e : Expr} {te : TE} {we : WE} {p p2 pos : Pos}
/-- e.f, e the error that is held -/
def wXf (a : Addr) (y : Str) (dx : Addr) (f : Str) (we : WE) : WE := fun ρ M Q => we ρ M fun d M1 => match d with
  | .exc a' y' dx' ns ds => a' = a ∧ y' = y ∧ dx' = dx ∧ ∃ d, (ns.zip ds).lookup f = some d ∧ Q d M1
  | _ => False
theorem lookup_rep {K : PySem.W.Frag} {H : Hp} {f : Str} {d : D} : ∀ {ns : List Str} {vs : List V} {ds : List D}, ns.length = vs.length → RepL K H vs ds → (ns.zip ds).lookup f = some d → ∃ v, (ns.zip vs).lookup f = some v ∧ Rep K H v d
  | [], _, _, _, _, h => by cases h
  | n :: ns, [], _, l, _, _ => by cases l
  | n :: ns, v :: vs, _, l, .cons (d := d') (ds := ds') r t, h => by
    have h' : (match f == n with | true => some d' | false => (ns.zip ds').lookup f) = some d := h
    show ∃ v', (match f == n with | true => some v | false => (ns.zip vs).lookup f) = some v' ∧ Rep K H v' d
    cases q : f == n with
    | true =>
      rw [q] at h'
      cases h'
      exact ⟨v, rfl, r⟩
    | false =>
      rw [q] at h'
      exact lookup_rep (Nat.succ.inj l) t h'
theorem de_xf (T : ErrF X.K C) (hno : PySem.W.findIn X.K (.ref C) f = some none) (hz : Zc (.ref C) (some dx) oe) (hf : ∃ vs, oe.data = .fields vs) (he : DE (X.suite a ((a, oe) :: pn)) e te we) (hb : attributeBase e f X.env (eval e X.env) = eval e X.env := by rfl) :
    DE (X.suite a ((a, oe) :: pn)) (.Attribute e f pos) (tXf a (.ref C) (some dx) C f te) (wXf a y dx f we) := by
  refine ⟨pe_xf T.xf hno hz hf he.pe hb, fun Z ρ M σ H Q Q' s h q => ?_⟩
  refine he.sm Z ρ M σ H _ _ s h fun v d H1 M1 g1 r1 q1 => ?_
  cases d with
  | exc a' y' dx' ns ds =>
    obtain ⟨rfl, rfl, rfl, d, hl, q2⟩ := q1
    cases r1 with
    | exc h1 l1 rl =>
      obtain ⟨v, hv, rv⟩ := lookup_rep l1 rl hl
      exact ⟨rfl, rfl, dx', _, v, rfl, fz_sub _ _ h1, hv, q v d H1 M1 g1 rv q2⟩
  | _ => exact q1.elim
end
end L3
namespace L3
open PySem L2
/-! ### plain values compared where an error is handled; tables of classes -/
def eqSc (neg : Bool) : F2 := fun d e M Q => match eqS d e with
  | some b => Q (.bl (if neg then !b else b)) M
  | none => False
theorem sim_eqSc {K : PySem.W.Frag} : SimR K rEq (eqSc false) := by
  intro Z x y d e H M Q Q' S r1 r2 f q
  unfold eqSc at f
  cases h : eqS d e with
  | none =>
    rw [h] at f
    exact f.elim
  | some b =>
    rw [h] at f
    obtain ⟨z1, z2⟩ := eqS_rep r1 r2 h
    subst z2
    exact ⟨z1, q _ _ H M (Go.refl S) (.bl _) f⟩
theorem tab_in {L : List (Str × Bool)} {N : List Str} {y : Str} {b : Bool} (h : L.lookup y = some b) (hs : ∀ p ∈ L, p.1 ∈ N) : y ∈ N := by
  induction L with
  | nil => cases h
  | cons p L ih =>
    obtain ⟨x, c⟩ := p
    have h' : (match y == x with | true => some c | false => L.lookup y) = some b := h
    cases q : y == x with
    | true =>
      rw [beq_iff_eq.mp q]
      exact hs _ List.mem_cons_self
    | false =>
      rw [q] at h'
      exact ih h' fun p hp => hs p (List.mem_cons_of_mem _ hp)
theorem tab_mem {L : List (Str × Bool)} {y : Str} {b : Bool} (h : L.lookup y = some b) : (y, b) ∈ L := by
  induction L with
  | nil => cases h
  | cons p L ih =>
    obtain ⟨x, c⟩ := p
    have h' : (match y == x with | true => some c | false => L.lookup y) = some b := h
    cases q : y == x with
    | true =>
      rw [q] at h'
      cases h'
      rw [beq_iff_eq.mp q]
      exact List.mem_cons_self
    | false =>
      rw [q] at h'
      exact List.mem_cons_of_mem _ (ih h')
theorem cls_one {K : PySem.W.Frag} {y : Str} {C C' : Addr} (h : ClsAt K y C) (h' : ClsAt K y C') : C = C' := by
  unfold ClsAt at h h'
  rw [h] at h'
  cases h'
  rfl
/-- a table of classes from its entries -/
theorem hits_of {K : PySem.W.Frag} {c : Value} {L : List (Str × Bool)} (h : ∀ p ∈ L, ∃ C, ClsAt K p.1 C ∧ PySem.W.exmOne K (.ref C) c = some p.2) : Hits K c (fun x => L.lookup x) := fun y C b ca hy => by
  obtain ⟨C', c1, c2⟩ := h (y, b) (tab_mem hy)
  rw [cls_one ca c1]
  exact c2
theorem cls_all {K : PySem.W.Frag} {N : List Str} {Φ : Addr → Prop} (h : ∀ x ∈ N, ∃ C, ClsAt K x C ∧ Φ C) : ∀ y C, ClsAt K y C → y ∈ N → Φ C := fun y C ca hy => by
  obtain ⟨C', c1, c2⟩ := h y hy
  rw [cls_one ca c1]
  exact c2
theorem op_eqS {X : Cx} (_ : CxIs X) (a : Addr) (oe : Obj) (pn : List (Addr × Obj)) : OpR (X.suite a ((a, oe) :: pn)) (compareOp .Eq) rEq := op_eq
/-- the j-th statement of a class's body -/
def clsAt (s : Stmt) (j : Nat) : Stmt := match s with
  | .ClassDef _ _ _ body _ _ _ _ _ _ _ => body.getD j (.Pass ⟨0, 0, 0, 0⟩)
  | s => s
end L3
namespace L3
open PySem L2
/-! ### a value is itself -/
theorem repr_of {M : Mp} {Q : KD} {n : Nat} {d : D} (hn : n ≤ 60) (h : shw n (res M d)) (hc : cost (res M d) ≤ 16000000) (q : Q (.str (shown (res M d))) M) : fRepr [d] M Q := ⟨⟨n, hn, h⟩, hc, q⟩
end L3
namespace L3
open PySem L2
/-! ### sorted -/
theorem each_vals {K : PySem.W.Frag} {H : Hp} : ∀ {ys : List V} {its : List Value} {ds : List D}, Vals ys its → RepL K H ys ds → PySem.W.EachIs (fun v d => ∃ y, RelV y v ∧ Rep K H y d) its ds
  | _, _, _, .nil, .nil => .nil
  | _, _, _, .cons rv rvs, .cons rd rds => .cons ⟨_, rv, rd⟩ (each_vals rvs rds)
theorem vals_each {K : PySem.W.Frag} {H : Hp} : ∀ {its : List Value} {ds : List D}, PySem.W.EachIs (fun v d => ∃ y, RelV y v ∧ Rep K H y d) its ds → ∃ ys, Vals ys its ∧ RepL K H ys ds
  | _, _, .nil => ⟨[], .nil, .nil⟩
  | _, _, .cons ⟨y, a, b⟩ r => by
    obtain ⟨ys, h1, h2⟩ := vals_each r
    exact ⟨y :: ys, .cons a h1, .cons b h2⟩
theorem each_read {X : Cx} {pins : List (Addr × Obj)} {σ : L2.St} {H : Hp} {s : Shared} (I : L2.Inv X pins σ H s) (n : Nat) : ∀ {ys : List V} {its : List Value} {ds : List D}, Vals ys its → RepL X.K H ys ds → (∀ d ∈ ds, fit n d) → PySem.W.EachIs (fun v d => ∃ as, Reads s.heap v (D.py d) as) its ds
  | _, _, _, .nil, .nil, _ => .nil
  | _, _, _, .cons rv rvs, .cons rd rds, hf => .cons (Dp.reads I _ _ _ (Rep.dp n _ _ (hf _ List.mem_cons_self) rd) rv) (each_read I n rvs rds fun d hd => hf d (List.mem_cons_of_mem _ hd))
def srtD (ds : List D) : List D := ds.mergeSort (PySem.W.dataLe false D.py)
def rSrt (K : PySem.W.Frag) : List V → Hp → VK → Prop := fun xs H Q => ∃ (p : Addr) (ys : List V) (ds : List D) (n : Nat) (Hf : Hp), xs = [.ref p] ∧ SqL K H p ys ∧ RepL K H ys ds ∧ RepL K Hf ys ds ∧ n ≤ 60 ∧ (∀ d ∈ ds, fit n d) ∧ PySem.W.AllAlike (ds.map D.py) ∧ PySem.W.Sortable (ds.map D.py) ∧
  ∀ (l : Addr) (zs : List V), H l = none → RepL K Hf zs (srtD ds) → Q (.ref l) (upd H l (.lst zs))
theorem cr_srt {X : Cx} {k : Nat} (hr : Room k X.A) : CallR X (.builtin "sorted") (rSrt X.K) := by
  intro pins s σ H xs us Q I r h
  obtain ⟨p, ys, ds, n, Hf, rfl, hs, rl, rl2, hn, hf, al, so, q⟩ := h
  rw [Vals.ref1 r]
  obtain ⟨its, rv, pl, hz⟩ := I.list hs
  have hu := hr.units
  have hl : ds.length ≤ sizeLine := by rw [← rl.len]; exact hz
  refine PySem.W.sorted_data (enc := D.py) pl.isList (each_vals rv rl2) (each_read I n rv rl hf) al so hl (fun d hd => ?_) fun out ho he => ?_
  · have := (fit_lay n d (hf d hd)).2
    show X.A.units + 2 + d.py.depth < cLine
    omega
  · obtain ⟨zs, z1, z2⟩ := vals_each he
    obtain ⟨ep, hp⟩ := PyProof.Rows.sortedAll_at s.heap its out.toArray
    refine ⟨.ref _, upd H (s.heap.objs.size + 1) (.lst zs), I.laid (t' := s.toks) (fun _ _ => PyProof.Rows.sortedAll_old) (Nat.le_succ _) ⟨?_, out, ep, z1, hp⟩, rfl, q _ zs (I.hok.fresh (Nat.le_succ _)) z2⟩
    rw [z1.length, ho]
    exact hl
def fSrt : FC := fun ds M Q => match ds with
  | [d] => ∃ (es : List D) (n : Nat), (∃ a, d = .tok a ∨ d = .lst es) ∧ seqD M d = some es ∧ n ≤ 60 ∧ (∀ e ∈ es, fit n e) ∧ PySem.W.AllAlike (es.map D.py) ∧ PySem.W.Sortable (es.map D.py) ∧ Q (.lst (srtD es)) M
  | _ => False
theorem sim_srt {K : PySem.W.Frag} : SimC K (rSrt K) fSrt := by
  intro Z xs ds H M Q Q' S r f q
  unfold fSrt at f
  split at f
  · cases r with
    | cons r1 r2 =>
      cases r2
      obtain ⟨es, n, hd, hs, hn, hf, al, so, z⟩ := f
      obtain ⟨p, vs, rfl, hv, rl⟩ := lst_of S r1 hd hs
      refine ⟨p, vs, es, n, fz Z H M, rfl, hv, rl.up fz_sub, rl, hn, hf, al, so, fun l zs hl rz => ?_⟩
      obtain ⟨g, hn2⟩ := Go.laid (o := .lst zs) S hl
      exact q _ _ _ _ g (.lst (.inl (.inl hn2)) (rz.up g.ex)) z
  · exact f.elim
end L3
namespace L3
open PySem L2
/-! ### enumerate(a tuple) -/
/-! by data -/
end L3
namespace L3
open PySem L2
/-! ### for y in zip(*xs), y one name -/
structure ZHalf (h : Heap) (z TI TO : Addr) (qs : List (Addr × Addr)) (i : Nat) (x : Value) (b : Bool) (old : List Value) : Prop where
  zip : IsZipB h z TI TO x b
  ti : h.get? TI = some { cls := .type "tuple", data := .seq (qs.map fun q => Value.ref q.1).toArray }
  out : h.get? TO = some { cls := .type "tuple", data := .seq old.toArray }
  len : old.length = qs.length
  iter : ∀ q ∈ qs, h.IsTupleIter q.1 q.2 i
theorem ZHalf.keep {h h' : Heap} {z TI TO : Addr} {qs : List (Addr × Addr)} {i : Nat} {x : Value} {b : Bool} {old : List Value} (S : ZHalf h z TI TO qs i x b old) (k : ∀ c ∈ z :: TI :: TO :: qs.map (·.1), ∀ o, h.get? c = some o → h'.get? c = some o) : ZHalf h' z TI TO qs i x b old :=
  ⟨k z (by simp) _ S.zip, k TI (by simp) _ S.ti, k TO (by simp) _ S.out, S.len, fun q hq => (S.iter q hq).at fun o e => k q.1 (by simp; exact .inr (.inr (.inr ⟨_, hq⟩))) o e⟩
/-! by data -/
end L3
namespace L3
open PySem L2
end L3
namespace L3
open PySem L2
/-! ### dicts that change: tokens -/
def valD (kd : List (Key × D)) (k : Key) : Option D := (kd.find? fun p => decide (p.1 = k)).map (·.2)
def putD (kd : List (Key × D)) (k : Key) (d : D) : List (Key × D) :=
  if (kd.any fun p => decide (p.1 = k)) = true then kd.map (fun p => if p.1 = k then (p.1, d) else p) else kd ++ [(k, d)]
def dropD (kd : List (Key × D)) (k : Key) : List (Key × D) := kd.filter fun p => decide (p.1 ≠ k)
section
variable {K : PySem.W.Frag} {Z H H' : Hp} {M : Mp}
theorem RepK.nil : RepK K H [] [] := ⟨rfl, .nil⟩
theorem RepK.cons {k : Key} {v : V} {d : D} {kv : List (Key × V)} {kd : List (Key × D)} (r : Rep K H v d) (q : RepK K H kv kd) : RepK K H ((k, v) :: kv) ((k, d) :: kd) := ⟨by rw [List.map_cons, List.map_cons, q.1], .cons r q.2⟩
theorem RepK.uncons {p : Key × V} {kv : List (Key × V)} {kd : List (Key × D)} (q : RepK K H (p :: kv) kd) : ∃ d kd', kd = (p.1, d) :: kd' ∧ Rep K H p.2 d ∧ RepK K H kv kd' := by
  obtain ⟨e, r⟩ := q
  cases kd with
  | nil => cases e
  | cons z kd' =>
    obtain ⟨k, d⟩ := z
    rw [List.map_cons, List.map_cons] at e
    injection e with e1 e2
    rw [List.map_cons, List.map_cons] at r
    cases r with
    | cons r1 r2 =>
      refine ⟨d, kd', ?_, r1, e2, r2⟩
      show (k, d) :: kd' = (p.1, d) :: kd'
      rw [e1]
theorem RepK.nil' {kd : List (Key × D)} (q : RepK K H [] kd) : kd = [] := by
  have e := q.1
  cases kd with
  | nil => rfl
  | cons z r => cases e
theorem RepK.len {kv : List (Key × V)} {kd : List (Key × D)} (q : RepK K H kv kd) : kv.length = kd.length := by
  have := congrArg List.length q.1
  rwa [List.length_map, List.length_map] at this
theorem RepK.val (k : Key) : ∀ {kv : List (Key × V)} {kd : List (Key × D)}, RepK K H kv kd → (valV kv k = none ∧ valD kd k = none) ∨ ∃ v d, valV kv k = some v ∧ valD kd k = some d ∧ Rep K H v d
  | [], kd, q => by
    rw [q.nil']
    exact .inl ⟨rfl, rfl⟩
  | p :: kv, kd, q => by
    obtain ⟨d, kd', rfl, r, q'⟩ := q.uncons
    by_cases h : p.1 = k
    · refine .inr ⟨p.2, d, ?_, ?_, r⟩
      · unfold valV
        rw [List.find?_cons_of_pos (by simpa using h)]
        rfl
      · unfold valD
        rw [List.find?_cons_of_pos (by simpa using h)]
        rfl
    · have e1 : valV (p :: kv) k = valV kv k := by
        unfold valV
        rw [List.find?_cons_of_neg (by simpa using h)]
      have e2 : valD ((p.1, d) :: kd') k = valD kd' k := by
        unfold valD
        rw [List.find?_cons_of_neg (by simpa using h)]
      rw [e1, e2]
      exact RepK.val k q'
theorem RepK.some {k : Key} {d : D} {kv : List (Key × V)} {kd : List (Key × D)} (q : RepK K H kv kd) (e : valD kd k = some d) : ∃ v, valV kv k = some v ∧ Rep K H v d := by
  rcases q.val k with ⟨_, h⟩ | ⟨v, d', h1, h2, r⟩
  · rw [e] at h
    cases h
  · rw [e] at h2
    cases h2
    exact ⟨v, h1, r⟩
theorem RepK.none {k : Key} {kv : List (Key × V)} {kd : List (Key × D)} (q : RepK K H kv kd) (e : valD kd k = none) : valV kv k = none := by
  rcases q.val k with ⟨h, _⟩ | ⟨v, d', h1, h2, r⟩
  · exact h
  · rw [e] at h2
    cases h2
theorem RepK.isSome {k : Key} {kv : List (Key × V)} {kd : List (Key × D)} (q : RepK K H kv kd) : (valV kv k).isSome = (valD kd k).isSome := by
  rcases q.val k with ⟨h, h2⟩ | ⟨v, d', h1, h2, r⟩
  · rw [h, h2]
    rfl
  · rw [h1, h2]
    rfl
theorem RepK.any (k : Key) : ∀ {kv : List (Key × V)} {kd : List (Key × D)}, RepK K H kv kd → (kv.any fun p => decide (p.1 = k)) = kd.any fun p => decide (p.1 = k)
  | [], kd, q => by
    rw [q.nil']
    rfl
  | p :: kv, kd, q => by
    obtain ⟨d, kd', rfl, r, q'⟩ := q.uncons
    rw [List.any_cons, List.any_cons, RepK.any k q']
theorem RepK.snoc {k : Key} {v : V} {d : D} (r : Rep K H v d) : ∀ {kv : List (Key × V)} {kd : List (Key × D)}, RepK K H kv kd → RepK K H (kv ++ [(k, v)]) (kd ++ [(k, d)])
  | [], kd, q => by
    rw [q.nil']
    exact RepK.nil.cons r
  | p :: kv, kd, q => by
    obtain ⟨d', kd', rfl, r', q'⟩ := q.uncons
    exact (RepK.snoc r q').cons r'
theorem RepK.repl {k : Key} {v : V} {d : D} (r : Rep K H v d) : ∀ {kv : List (Key × V)} {kd : List (Key × D)}, RepK K H kv kd → RepK K H (kv.map fun p => if p.1 = k then (p.1, v) else p) (kd.map fun p => if p.1 = k then (p.1, d) else p)
  | [], kd, q => by
    rw [q.nil']
    exact .nil
  | p :: kv, kd, q => by
    obtain ⟨d', kd', rfl, r', q'⟩ := q.uncons
    rw [List.map_cons, List.map_cons]
    by_cases h : p.1 = k
    · rw [if_pos h, if_pos h]
      exact (RepK.repl r q').cons r
    · rw [if_neg h, if_neg h]
      exact (RepK.repl r q').cons r'
theorem RepK.put {k : Key} {v : V} {d : D} {kv : List (Key × V)} {kd : List (Key × D)} (r : Rep K H v d) (q : RepK K H kv kd) : RepK K H (putK kv k v) (putD kd k d) := by
  unfold putK putD
  rw [q.any k]
  split
  · exact RepK.repl r q
  · exact RepK.snoc r q
theorem RepK.drop (k : Key) : ∀ {kv : List (Key × V)} {kd : List (Key × D)}, RepK K H kv kd → RepK K H (dropK kv k) (dropD kd k)
  | [], kd, q => by
    rw [q.nil']
    exact .nil
  | p :: kv, kd, q => by
    obtain ⟨d', kd', rfl, r', q'⟩ := q.uncons
    unfold dropK dropD
    by_cases h : p.1 = k
    · rw [List.filter_cons_of_neg (by simpa using h), List.filter_cons_of_neg (by simpa using h)]
      exact RepK.drop k q'
    · rw [List.filter_cons_of_pos (by simpa using h), List.filter_cons_of_pos (by simpa using h)]
      exact (RepK.drop k q').cons r'
end
end L3
namespace L3
open PySem L2
section
variable {X : Cx} {E : WX3} {e a b o i f value tgt : Expr} {es : List Expr} {t ta tb te to ti tv td ty tx : TE} {w wa wb we wo wi wv wd wy wx : WE} {pos pos' tpos cpos apos p : Pos} {k : Nat} {ts : TS} {ws : WS}
theorem Room.u1 (hr : Room k X.A) : X.A.units + 1 < cLine := by
  have := hr.units
  omega
/-! ### d[k] -/
/-! ### k in d -/
/-! ### d[k] = v -/
/-! ### del d[k] -/
/-! ### len(d), d.get, d.pop, d.setdefault -/
end
end L3
namespace L3
open PySem L2
end L3
namespace L3
open PySem L2
theorem Sat.shown {K : PySem.W.Frag} {Z H : Hp} {M : Mp} {p : Addr} {o : HO} {c : Cell} (S : Sat K (upd Z p o) H M) (hz : Z p = none) (ok : Same (fz (upd Z p o) H M) (fz Z H (setM M p c)) → CellOk K Z H (setM M p c) p c) : Sat K Z H (setM M p c) ∧ Same (fz (upd Z p o) H M) (fz Z H (setM M p c)) := by
  have ex : Same (fz (upd Z p o) H M) (fz Z H (setM M p c)) := fun b u e => by
    obtain ⟨e1, e2, e3⟩ := fz_is e
    have hb : b ≠ p := fun z => by
      subst z
      rw [upd_same] at e2
      cases e2
    rw [upd_ne hb] at e2
    exact fz_to (by rw [setM_ne hb]; exact e1) e2 e3
  have hm : M p = none := (S.zed p o upd_same).2
  refine ⟨⟨fun a c' h => ?_, fun a u h => ?_⟩, ex⟩
  · by_cases ha : a = p
    · subst ha
      rw [setM_same] at h
      cases h
      exact ok ex
    · rw [setM_ne ha] at h
      refine (S.cell a c' h).same ex (fun _ q => q) fun b e => ⟨?_, fun _ q => q⟩
      have hb : b ≠ p := fun z => by
        subst z
        rw [hm] at e
        cases e
      rw [setM_ne hb]
      exact e
  · have ha : a ≠ p := fun z => by
      subst z
      rw [hz] at h
      cases h
    obtain ⟨e1, e2⟩ := S.zed a u (by rw [upd_ne ha]; exact h)
    exact ⟨e1, by rw [setM_ne ha]; exact e2⟩
/-- nothing that stood is changed -/
theorem Go.kept {K : PySem.W.Frag} {Z H H' : Hp} {M : Mp} (S : Sat K Z H M) (k : ∀ b o, H b = some o → H' b = some o) : Go K Z H M H' M := by
  have ex : Same (fz Z H M) (fz Z H' M) := fun b u e => fz_to (fz_is e).1 (fz_is e).2.1 (k _ _ (fz_is e).2.2)
  exact ⟨⟨fun a c h => (S.cell a c h).same ex (fun o q => k _ _ q) fun b e => ⟨e, fun o q => k _ _ q⟩, fun a u h => ⟨k _ _ (S.zed a u h).1, (S.zed a u h).2⟩⟩, ex⟩
end L3
namespace L3
open PySem L2
end L3
namespace L3
open PySem L2
/-! ### isinstance(error, (A, B)) -/
/-! ### x in xs, any data -/
/-! ### a sign in a text -/
/-! ### str(n) -/
/-! ### methods of texts -/
/-! ### [..] * k -/
end L3
namespace L3
section
open PySem PySem.SeqAt PySem.MeetsSeq PySem.MeetsSeq2 PySem.MeetsSeq3
open PySem.AutoSeq1 (wpAny_loadPart')
/-! ### a dict and a value of another kind -/
/-- an exact dict -/
def IsDct (h : Heap) (l : Addr) : Prop := ∃ es ep dd sl, h.get? l = some { cls := .type "dict", dict := dd, data := .dict es ep, slots := sl }
variable {A : Around} {s : Shared}
end
end L3
namespace L3
open PySem L2
/-! ### equality of data with dicts within -/
def kindD : D → Option Nat
  | .non => some 0
  | .bl _ => some 1
  | .int _ => some 1
  | .str _ => some 2
  | .tup _ => some 3
  | .lst _ => some 4
  | .dct _ _ => some 5
  | _ => none
/-- `EqG n d e b`: d == e is b, by n steps inwards -/
inductive EqG : Nat → D → D → Bool → Prop
  | same {n : Nat} {d e : D} : L3.fit n d → L3.fit n e → EqG n d e (eqD d e)
  | tup {n : Nat} {ds es : List D} (f : Nat → Bool) : (∀ (j : Nat) (d e : D), ds[j]? = some d → es[j]? = some e → EqG n d e (f j)) → EqG (n + 1) (.tup ds) (.tup es) ((List.range (min ds.length es.length)).all f && ds.length == es.length)
  | lst {n : Nat} {ds es : List D} (f : Nat → Bool) : ds.length = es.length → (∀ (j : Nat) (d e : D), ds[j]? = some d → es[j]? = some e → EqG n d e (f j)) → EqG (n + 1) (.lst ds) (.lst es) ((List.range ds.length).all f)
  | lstN {n : Nat} {ds es : List D} : ds.length ≠ es.length → EqG n (.lst ds) (.lst es) false
  | kin {n : Nat} {d e : D} {i j : Nat} : kindD d = some i → kindD e = some j → i ≠ j → EqG n d e false
theorem EqG.up {n m : Nat} {d e : D} {b : Bool} (h : EqG n d e b) (l : n ≤ m) (hf : ∀ (k : Nat) (d : D), L3.fit k d → L3.fit (k + 1) d) : EqG m d e b := by
  induction h generalizing m with
  | @same n d e f1 f2 =>
    have up : ∀ (j : Nat) {d : D}, L3.fit n d → L3.fit (n + j) d := fun j => by
      induction j with
      | zero => exact fun h => h
      | succ j ih => exact fun h => hf _ _ (ih h)
    obtain ⟨j, rfl⟩ := Nat.exists_eq_add_of_le l
    exact .same (up j f1) (up j f2)
  | @tup n ds es f _ ih =>
    obtain ⟨j, rfl⟩ : ∃ j, m = j + 1 := ⟨m - 1, by omega⟩
    exact .tup f fun i d e h1 h2 => ih i d e h1 h2 (by omega : n ≤ j)
  | @lst n ds es f hl _ ih =>
    obtain ⟨j, rfl⟩ : ∃ j, m = j + 1 := ⟨m - 1, by omega⟩
    exact .lst f hl fun i d e h1 h2 => ih i d e h1 h2 (by omega : n ≤ j)
  | lstN h => exact .lstN h
  | kin h1 h2 h3 => exact .kin h1 h2 h3
section
variable {X : Cx} {pins : List (Addr × Obj)} {σ : L2.St} {H : Hp} {s : Shared}
/-- what a value of a kind looks like -/
inductive Looks (h : Heap) : Nat → Value → Prop
  | non : Looks h 0 .none
  | bl (b : Bool) : Looks h 1 (.bool b)
  | int (i : Int) (t : Tok) : Looks h 1 (.int i t)
  | str (x : Str) (t : Tok) : Looks h 2 (.str x t)
  | tup {a : Addr} {its : Array Value} : h.IsTuple a its → Looks h 3 (.ref a)
  | lst {a : Addr} {its : Array Value} : h.IsList a its → Looks h 4 (.ref a)
  | dct {a : Addr} : IsDct h a → Looks h 5 (.ref a)
end
/-! ### the rules -/
/-! ### x in xs -/
end L3
namespace L3
open PySem L2
/-! ### instances of own classes: tokens of the store, by their class's name -/
/-- what of a class is read: its fields' names -/
structure Own (K : PySem.W.Frag) (x : Str) (L : List Str) : Prop where
  ex : ∃ C, ClsAt K x C ∧ Cls K C ∧ ∀ f ∈ L, NoAttr K C f
/-- a method, by its contract -/
structure HasM (P : Program) (w : World) (K : PySem.W.Frag) (mg : Str → Option Value) (base : Heap) (k : Nat) (x m q : Str) (st : Stmt) (ps : List Str) (F : Fs) : Prop where
  ex : ∃ (C f : Addr) (fd : FuncData), ClsAt K x C ∧ Cls K C ∧ Meth K C m f ∧ FnG P w K mg base k f fd ps (lift K F) ∧ Fun K m q st f fd ∧ Binds K fd ps []
/-- a class that is made, by its __init__'s contract -/
structure HasC (P : Program) (w : World) (K : PySem.W.Frag) (mg : Str → Option Value) (base : Heap) (k : Nat) (x q : Str) (st : Stmt) (ps : List Str) (F : Fs) : Prop where
  ex : ∃ (C f : Addr) (fd : FuncData), ClsAt K x C ∧ mg x = some (.ref C) ∧ Mk K C f ∧ FnG P w K mg base k f fd ps (lift K F) ∧ Fun K "__init__" q st f fd ∧ Binds K fd ps []
theorem one_cls {K : PySem.W.Frag} {y : Str} {C C' : Addr} (h : ClsAt K y C) (h' : ClsAt K y C') : C = C' := by
  unfold ClsAt at h h'
  rw [h] at h'
  cases h'
  rfl
/-- how a method's call with keywords binds; the receiver is the first -/
def KwM (x q : Str) (st : Stmt) (ps : List Str) (n : Nat) (ks : List Str) (idx : List Nat) : Prop := ∀ (kV doc pm : Value) (an : Option Addr) (cdv ct : Value) (us ws : List Value), us.length = n → ws.length = ks.length →
  bindArgs (PySem.W.fnOf x q (defArgs st) (defBody st) (defScope st) .none kV doc pm an cdv ct) ⟨us, ks.zip ws⟩ = pure (ps.zip (permU idx us ws))
theorem kbm_of {K : PySem.W.Frag} {x q : Str} {st : Stmt} {ps : List Str} {f : Addr} {fd : FuncData} {n : Nat} {ks : List Str} {idx : List Nat} (Fn : Fun K x q st f fd) (h : KwM x q st ps n ks idx) : KB K fd ps n ks idx := by
  obtain ⟨oc, od, kV, doc, pm, an, cdv, ct, osl, rfl, lk, hcd⟩ := Fn.ex
  exact fun s us ws _ h1 h2 => .of_eq (h kV doc pm an cdv ct us ws h1 h2)
/-! fields of the store -/
theorem repf_none {K : PySem.W.Frag} {H : Hp} {m : Str} : ∀ {fv : List (Str × V)} {fs : List (Str × D)}, RepF K H fv fs → fs.lookup m = none → fv.lookup m = none
  | [], [], _, _ => rfl
  | [], _ :: _, ⟨h, _⟩, _ => by cases h
  | _ :: _, [], ⟨h, _⟩, _ => by cases h
  | (a, v) :: fv, (b, d) :: fs, ⟨h, r⟩, e => by
    have h : a :: fv.map (·.1) = b :: fs.map (·.1) := h
    injection h with h1 h2
    subst h1
    rw [List.lookup_cons] at e ⊢
    cases z : m == a with
    | true =>
      rw [z] at e
      cases e
    | false =>
      rw [z] at e
      cases r with
      | cons _ t => exact repf_none (fs := fs) ⟨h2, t⟩ e
theorem repf_some {K : PySem.W.Frag} {H : Hp} {m : Str} {d : D} : ∀ {fv : List (Str × V)} {fs : List (Str × D)}, RepF K H fv fs → fs.lookup m = some d → ∃ v, fv.lookup m = some v ∧ Rep K H v d
  | [], [], _, e => by cases e
  | [], _ :: _, ⟨h, _⟩, _ => by cases h
  | _ :: _, [], ⟨h, _⟩, _ => by cases h
  | (a, v) :: fv, (b, d0) :: fs, ⟨h, r⟩, e => by
    have h : a :: fv.map (·.1) = b :: fs.map (·.1) := h
    injection h with h1 h2
    subst h1
    rw [List.lookup_cons] at e
    rw [List.lookup_cons]
    cases r with
    | cons r t =>
      cases z : m == a with
      | true =>
        rw [z] at e
        cases e
        exact ⟨v, rfl, r⟩
      | false =>
        rw [z] at e
        exact repf_some (fs := fs) ⟨h2, t⟩ e
def putFD (f : Str) (d : D) : List (Str × D) → List (Str × D)
  | [] => [(f, d)]
  | (g, x) :: r => if g = f then (g, d) :: r else (g, x) :: putFD f d r
theorem repf_put {K : PySem.W.Frag} {H : Hp} {f : Str} {v : V} {d : D} (rv : Rep K H v d) : ∀ {fv : List (Str × V)} {fs : List (Str × D)}, RepF K H fv fs → RepF K H (putF f v fv) (putFD f d fs)
  | [], [], _ => ⟨rfl, .cons rv .nil⟩
  | [], _ :: _, ⟨h, _⟩ => by cases h
  | _ :: _, [], ⟨h, _⟩ => by cases h
  | (a, w) :: fv, (b, e) :: fs, ⟨h, r⟩ => by
    have h : a :: fv.map (·.1) = b :: fs.map (·.1) := h
    injection h with h1 h2
    subst h1
    cases r with
    | cons r t =>
      unfold putF putFD
      by_cases z : a = f
      · rw [if_pos z, if_pos z]
        exact ⟨congrArg (a :: ·) h2, .cons rv t⟩
      · rw [if_neg z, if_neg z]
        have q := repf_put (f := f) rv (fv := fv) (fs := fs) ⟨h2, t⟩
        exact ⟨congrArg (a :: ·) q.1, .cons r q.2⟩
theorem repf_len {K : PySem.W.Frag} {H : Hp} {fv : List (Str × V)} {fs : List (Str × D)} (r : RepF K H fv fs) : fv.length = fs.length := by
  have := congrArg List.length r.1
  rwa [List.length_map, List.length_map] at this
section
variable {X : Cx} {W E3 : WX3} {e o value : Expr} {es : List Expr} {kws : List Keyword} {te to tv : TE} {we wo wv : WE} {tr tk : TA} {wr wk : WA} {pos pos' apos p : Pos} {k : Nat} {x m q f g : Str} {st : Stmt} {ps ks : List Str} {F : Fs} {L : List Str} {n : Nat} {idx : List Nat}
/-! ### e.f -/
def wFld (x f : Str) (w : WE) : WE := fun ρ M Q => w ρ M fun d M1 => match d with
  | .tok a => match M1 a with
    | some (.ins y fs) => y = x ∧ ∃ v, fs.lookup f = some v ∧ Q v M1
    | _ => False
  | _ => False
theorem de_fld (T : Own X.K x L) (he : DE X e te we) (hf : f ∈ L := by decide) (hb : attributeBase e f X.env (eval e X.env) = eval e X.env := by rfl) : DE X (.Attribute e f pos) (tFld X.K te f) (wFld x f we) := by
  refine ⟨pe_fld he.pe hb, fun Z ρ M σ H Q Q' s h q => ?_⟩
  obtain ⟨C, cl, c, nf⟩ := T.ex
  refine he.sm Z ρ M σ H _ _ s h fun v d H1 M1 g1 r1 q1 => ?_
  cases d with
  | tok a =>
    cases r1
    dsimp only at q1
    cases hm : M1 a with
    | none =>
      rw [hm] at q1
      exact q1.elim
    | some c1 =>
      rw [hm] at q1
      cases c1 with
      | ins y fs =>
        obtain ⟨rfl, d, hl, q1⟩ := q1
        obtain ⟨C', dx, fv, cl', ha, rf⟩ := g1.sat.cell a _ hm
        obtain rfl := one_cls cl cl'
        obtain ⟨v, hv, rv⟩ := repf_some rf hl
        exact ⟨a, C, dx, fv, v, rfl, ha, c, nf f hf, hv, q v d H1 M1 g1 rv q1⟩
      | _ => exact q1.elim
  | _ => exact q1.elim
/-! ### o.f = e -/
def wSetF (x f : Str) (wo wv : WE) : WS := fun D ρ M => wv ρ M fun y M1 => wo ρ M1 fun d M2 => match d with
  | .tok a => match M2 a with
    | some (.ins z fs) => z = x ∧ fs.length < 1000 ∧ D.nx ρ (setM M2 a (.ins x (putFD f y fs)))
    | _ => False
  | _ => False
theorem ds_fld (T : Own X.K x L) (ho : DE X o to wo) (hv : DE X value tv wv) (hf : f ∈ L := by decide) (hs : swapsWith value (some (.Attribute o f pos')) pos.line X.env = pure false := by rfl) : DS X E3 (.Assign [.Attribute o f pos'] value pos) (sFld X.K to tv f) (wSetF x f wo wv) := by
  refine ⟨ps_fld ho.pe hv.pe hs, fun Z D3 ρ M σ H D r h en => ?_⟩
  obtain ⟨C, cl, c, nf⟩ := T.ex
  refine hv.sm Z ρ M σ H _ _ r h fun y dy H1 M1 g1 r1 q1 => ?_
  refine ho.sm Z ρ M1 σ H1 _ _ (r.go g1) q1 fun v d H2 M2 g2 r2 q2 => ?_
  cases d with
  | tok a =>
    cases r2
    dsimp only at q2
    cases hm : M2 a with
    | none =>
      rw [hm] at q2
      exact q2.elim
    | some c1 =>
      rw [hm] at q2
      cases c1 with
      | ins z fs =>
        obtain ⟨rfl, hl, q2⟩ := q2
        obtain ⟨C', dx, fv, cl', ha, rf⟩ := g2.sat.cell a _ hm
        obtain rfl := one_cls cl cl'
        refine ⟨a, C, dx, fv, rfl, ha, c, nf f hf, by rw [repf_len rf]; exact hl, ?_⟩
        have g3 : Go X.K Z H2 M2 (upd H2 a (.ins C dx (putF f y fv))) (setM M2 a (.ins z (putFD f dy fs))) := Go.put g2.sat (.inr ⟨_, hm, nofun⟩) fun ex => ⟨C, dx, _, cl, upd_same, (repf_put (r1.up g2.ex) rf).up ex⟩
        have g := (g1.trans g2).trans g3
        exact en.nx ρ _ σ _ (r.go g) g q2
      | _ => exact q2.elim
  | _ => exact q2.elim
/-! ### o.m(..) -/
def tMethG (K : PySem.W.Frag) (y m : Str) (sp : Sp) (E : L2.St → XK) (to : TE) (t : TA) : TE := fun σ H Q => to σ H fun x H1 => ∃ C a dx fs, ClsAt K y C ∧ x = .ref a ∧ H1 a = some (.ins C dx fs) ∧ fs.lookup m = none ∧ t σ H1 fun vs H2 => sp (x :: vs) H2 Q (E σ)
def tMethGK (K : PySem.W.Frag) (y m : Str) (n k : Nat) (idx : List Nat) (sp : Sp) (E : L2.St → XK) (to : TE) (t tk : TA) : TE := fun σ H Q => to σ H fun x H1 => ∃ C a dx fs, ClsAt K y C ∧ x = .ref a ∧ H1 a = some (.ins C dx fs) ∧ fs.lookup m = none ∧
  t σ H1 fun vs H2 => tk σ H2 fun zs H3 => vs.length = n ∧ zs.length = k ∧ sp (perm idx (x :: vs) zs) H3 Q (E σ)
variable {C fa : Addr} {fd : FuncData} {sp : Sp} {E : L2.St → XK}
theorem pe_methG {pl : Sem Bool} (he : PE X o to) (cl : ClsAt X.K x C) (c : Cls X.K C) (hm : Meth X.K C m fa) (G : FnG X.prog X.w X.K X.mg X.base k fa fd ps sp) (hr : Room k X.A) (gd : X.A.guards = some []) (hb : Binds X.K fd ps []) (hx : ∀ σ, PassesAt (L2.CX X.prog X.w) X σ (E σ)) (ha : PA X (e :: es) tr)
    (hst : starEach (e :: es) X.env = (false, eval e X.env) :: starEach es X.env := by rfl) (hpl : (backTo pos (starEach es X.env)).any (·.1) = false := by rfl)
    (ht : eval (.Call (.Attribute o m apos) (e :: es) [] pos) X.env = (do
      let ov ← eval o X.env
      standAt apos.atName
      let (f, first) ← holding [ov] (getMethod ov m pl)
      callWith pos f first (backTo pos (starEach (e :: es) X.env)) (backToKw pos (keywordEach [] X.env))) := by rfl) :
    PE X (.Call (.Attribute o m apos) (e :: es) [] pos) (tMethG X.K x m sp E to tr) := by
  refine ⟨fun pins s σ H Q I h => ?_⟩
  refine PySem.W.methodCall_KW (pl := pl) (thn (he.run pins s σ H _ I h) fun u s1 ⟨x, H1, I1, rx, C', a, dx, fs, cl', ex, ea, l, q⟩ => ?_) ht
  obtain rfl := one_cls cl cl'
  subst ex
  obtain rfl : u = Value.ref a := rx
  refine getmeth_ok I1 ea c hm l ?_
  refine PySem.W.callWith_K (first := [.ref a]) (h₀ := X.base) I.ok.mod.kin hm.kp (thn (ha.run pos pins s1 σ H1 _ I1 q) fun us s2 ⟨vs, H2, I2, r, q2⟩ => ⟨I2.kIn, ?_⟩) hst hpl
  have r2 : Vals (.ref a :: vs) (.ref a :: us) := .cons rfl r
  have hl : (Value.ref a :: us ++ []).length = ps.length := by rw [List.append_nil, ← r2.length]; exact G.len _ _ _ _ q2
  have z := hb s2 (.ref a :: us) I2.kIn hl
  rw [List.append_nil] at z
  exact run_gX (us := .ref a :: us) (kw := []) G hr gd (hx σ) I2 z r2 q2
theorem pe_methG0 {pl : Sem Bool} (he : PE X o to) (cl : ClsAt X.K x C) (c : Cls X.K C) (hm : Meth X.K C m fa) (G : FnG X.prog X.w X.K X.mg X.base k fa fd ps sp) (hr : Room k X.A) (gd : X.A.guards = some []) (hb : Binds X.K fd ps []) (hx : ∀ σ, PassesAt (L2.CX X.prog X.w) X σ (E σ))
    (ht : eval (.Call (.Attribute o m apos) [] [] pos) X.env = (do
      let ov ← eval o X.env
      standAt apos.atName
      let (f, first) ← holding [ov] (getMethod ov m pl)
      callWith pos f first (backTo pos (starEach [] X.env)) (backToKw pos (keywordEach [] X.env))) := by rfl) :
    PE X (.Call (.Attribute o m apos) [] [] pos) (tMethG X.K x m sp E to tNil) := by
  refine ⟨fun pins s σ H Q I h => ?_⟩
  refine PySem.W.methodCall_KW (pl := pl) (thn (he.run pins s σ H _ I h) fun u s1 ⟨x, H1, I1, rx, C', a, dx, fs, cl', ex, ea, l, q⟩ => ?_) ht
  obtain rfl := one_cls cl cl'
  subst ex
  obtain rfl : u = Value.ref a := rx
  refine getmeth_ok I1 ea c hm l ?_
  have r2 : Vals [.ref a] [.ref a] := .cons rfl .nil
  have hl : ([Value.ref a] ++ []).length = ps.length := by rw [List.append_nil, ← r2.length]; exact G.len _ _ _ _ q
  have z := hb s1 [.ref a] I1.kIn hl
  rw [List.append_nil] at z
  exact PySem.W.callWith_K0 (first := [.ref a]) I1.kIn hm.kp (run_gX (us := [.ref a]) (kw := []) G hr gd (hx σ) I1 z r2 q)
theorem pe_methGK0 {pl : Sem Bool} (he : PE X o to) (cl : ClsAt X.K x C) (c : Cls X.K C) (hm : Meth X.K C m fa) (G : FnG X.prog X.w X.K X.mg X.base k fa fd ps sp) (hr : Room k X.A) (gd : X.A.guards = some []) (hb : KB X.K fd ps 1 ks idx) (hx : ∀ σ, PassesAt (L2.CX X.prog X.w) X σ (E σ)) (hkw : PK X kws tk)
    (hall : (backToKw pos (keywordEach kws X.env)).all (·.1.isSome) = true := by rfl) (hks : (backToKw pos (keywordEach kws X.env)).filterMap (·.1) = ks := by rfl)
    (hpl : ((backTo pos (starEach [] X.env)).any (·.1) || (backToKw pos (keywordEach kws X.env)).any (·.1.isNone)) = false := by rfl)
    (ht : eval (.Call (.Attribute o m apos) [] kws pos) X.env = (do
      let ov ← eval o X.env
      standAt apos.atName
      let (f, first) ← holding [ov] (getMethod ov m pl)
      callWith pos f first (backTo pos (starEach [] X.env)) (backToKw pos (keywordEach kws X.env))) := by rfl) :
    PE X (.Call (.Attribute o m apos) [] kws pos) (tMethGK X.K x m 0 ks.length idx sp E to tNil tk) := by
  refine ⟨fun pins s σ H Q I h => ?_⟩
  refine PySem.W.methodCall_KW (pl := pl) (thn (he.run pins s σ H _ I h) fun u s1 ⟨x, H1, I1, rx, C', a, dx, fs, cl', ex, ea, l, q⟩ => ?_) ht
  obtain rfl := one_cls cl cl'
  subst ex
  obtain rfl : u = Value.ref a := rx
  refine getmeth_ok I1 ea c hm l ?_
  refine PySem.W.callWith_KW0 (first := [.ref a]) (h₀ := X.base) I.ok.mod.kin hm.kp hall ?_ hpl
  refine thn (hkw.run pos pins s1 σ H1 _ I1 q) fun ws s3 ⟨zs, H3, I3, rz, l1, l2, q3⟩ => ⟨I3.kIn, ?_⟩
  rw [hks]
  have a2 : ws.length = ks.length := by rw [← rz.length]; exact l2
  exact run_gX (us := [.ref a]) G hr gd (hx σ) I3 (hb s3 [.ref a] ws I3.kIn rfl a2) (perm_rel idx (.cons (show RelV (.ref a) (.ref a) from rfl) .nil) rz) q3
/-- the receiver: an instance of the class -/
def isIns (x m : Str) (M : Mp) (a : Addr) : Prop := ∃ fs, M a = some (.ins x fs) ∧ fs.lookup m = none
def wMeth (x m : Str) (F : Fs) (wo : WE) (r : WA) : WE := fun ρ M Q => wo ρ M fun d M1 => match d with
  | .tok a => isIns x m M1 a ∧ r ρ M1 fun ds M2 => F (.tok a :: ds) M2 Q fun _ _ _ => False
  | _ => False
def wMethK (x m : Str) (n k : Nat) (idx : List Nat) (F : Fs) (wo : WE) (r rk : WA) : WE := fun ρ M Q => wo ρ M fun d M1 => match d with
  | .tok a => isIns x m M1 a ∧ r ρ M1 fun ds M2 => rk ρ M2 fun es M3 => ds.length = n ∧ es.length = k ∧ F (permD idx (.tok a :: ds) es) M3 Q fun _ _ _ => False
  | _ => False
def wMethX (x m : Str) (F : Fs) (wo : WE) (r : WA) : XR → WE := fun xr ρ M Q => wo ρ M fun d M1 => match d with
  | .tok a => isIns x m M1 a ∧ r ρ M1 fun ds M2 => F (.tok a :: ds) M2 Q fun y fs M3 => ∀ dx, xr y dx fs ρ M3
  | _ => False
theorem ins_at {K : PySem.W.Frag} {Z H : Hp} {M : Mp} {a : Addr} (S : Sat K Z H M) (cl : ClsAt K x C) (h : isIns x m M a) : ∃ dx fv, H a = some (.ins C dx fv) ∧ fv.lookup m = none := by
  obtain ⟨fs, hm, hl⟩ := h
  obtain ⟨C', dx, fv, cl', ha, rf⟩ := S.cell a _ hm
  obtain rfl := one_cls cl cl'
  exact ⟨dx, fv, ha, repf_none rf hl⟩
theorem sim_methX {K : PySem.W.Frag} (cl : ClsAt K x C) (ho : SimE K to wo) (ha : SimA K tr wr) : SimX K W (tMethG K x m (lift K F) (L2.WE W) to tr) (wMethX x m F wo wr) := by
  intro xr Z ρ M σ H Q Q' s h q qx
  refine ho Z ρ M σ H _ _ s h fun v d H1 M1 g1 r1 q1 => ?_
  cases d with
  | tok a =>
    cases r1
    obtain ⟨hi, q1⟩ := q1
    obtain ⟨dx, fv, e1, e2⟩ := ins_at g1.sat cl hi
    refine ⟨C, a, dx, fv, cl, rfl, e1, e2, ha Z ρ M1 σ H1 _ _ (s.go g1) q1 fun xs ds H2 M2 g2 r2 q2 => ?_⟩
    have g := g1.trans g2
    exact ⟨Z, _, M2, Q, _, g2.sat, .cons (.tok a) r2, q2, fun v d H3 M3 g3 r3 q3 => q v d H3 M3 (g.trans g3) r3 q3, fun x C dx vs fs H3 M3 ca g3 e2 l2 r3 z => qx x C dx vs fs H3 M3 ca (g.trans g3) e2 l2 r3 (z dx)⟩
  | _ => exact q1.elim
theorem sim_meth {K : PySem.W.Frag} (cl : ClsAt K x C) (ho : SimE K to wo) (ha : SimA K tr wr) : SimE K (tMethG K x m (lift K F) (fun _ => E0) to tr) (wMeth x m F wo wr) := by
  intro Z ρ M σ H Q Q' s h q
  refine ho Z ρ M σ H _ _ s h fun v d H1 M1 g1 r1 q1 => ?_
  cases d with
  | tok a =>
    cases r1
    obtain ⟨hi, q1⟩ := q1
    obtain ⟨dx, fv, e1, e2⟩ := ins_at g1.sat cl hi
    refine ⟨C, a, dx, fv, cl, rfl, e1, e2, ha Z ρ M1 σ H1 _ _ (s.go g1) q1 fun xs ds H2 M2 g2 r2 q2 => ?_⟩
    have g := g1.trans g2
    exact ⟨Z, _, M2, Q, _, g2.sat, .cons (.tok a) r2, q2, fun v d H3 M3 g3 r3 q3 => q v d H3 M3 (g.trans g3) r3 q3, fun _ _ _ _ _ _ _ _ _ _ _ _ z => z.elim⟩
  | _ => exact q1.elim
theorem sim_methK {K : PySem.W.Frag} (cl : ClsAt K x C) (ho : SimE K to wo) (ha : SimA K tr wr) (hk : SimA K tk wk) : SimE K (tMethGK K x m n k idx (lift K F) (fun _ => E0) to tr tk) (wMethK x m n k idx F wo wr wk) := by
  intro Z ρ M σ H Q Q' s h q
  refine ho Z ρ M σ H _ _ s h fun v d H1 M1 g1 r1 q1 => ?_
  cases d with
  | tok a =>
    cases r1
    obtain ⟨hi, q1⟩ := q1
    obtain ⟨dx, fv, e1, e2⟩ := ins_at g1.sat cl hi
    refine ⟨C, a, dx, fv, cl, rfl, e1, e2, ha Z ρ M1 σ H1 _ _ (s.go g1) q1 fun xs ds H2 M2 g2 r2 q2 => ?_⟩
    refine hk Z ρ M2 σ H2 _ _ (s.go (g1.trans g2)) q2 fun ys es H3 M3 g3 r3 ⟨l1, l2, q3⟩ => ⟨by rw [r2.len]; exact l1, by rw [r3.len]; exact l2, ?_⟩
    have g := (g1.trans g2).trans g3
    exact ⟨Z, _, M3, Q, _, g3.sat, perm_repL idx (.cons (.tok a) (r2.up g3.ex)) r3, q3, fun v d H4 M4 g4 r4 q4 => q v d H4 M4 (g.trans g4) r4 q4, fun _ _ _ _ _ _ _ _ _ _ _ _ z => z.elim⟩
  | _ => exact q1.elim
theorem pass00 : ∀ σ : L2.St, PassesAt (L2.CX X.prog X.w) X σ E0 := fun σ pins H s e s' I c => passL pins σ H s e s' I c
theorem de_m {pl : Sem Bool} (h : HasM X.prog X.w X.K X.mg X.base k x m q st ps F) (hr : Room k X.A) (gd : X.A.guards = some []) (ho : DE X o to wo) (ha : DA X (e :: es) tr wr) (hst : starEach (e :: es) X.env = (false, eval e X.env) :: starEach es X.env := by rfl) (hpl : (backTo pos (starEach es X.env)).any (·.1) = false := by rfl)
    (ht : eval (.Call (.Attribute o m apos) (e :: es) [] pos) X.env = (do
      let ov ← eval o X.env
      standAt apos.atName
      let (f, first) ← holding [ov] (getMethod ov m pl)
      callWith pos f first (backTo pos (starEach (e :: es) X.env)) (backToKw pos (keywordEach [] X.env))) := by rfl) : DE X (.Call (.Attribute o m apos) (e :: es) [] pos) (tMethG X.K x m (lift X.K F) (fun _ => E0) to tr) (wMeth x m F wo wr) := by
  obtain ⟨C, f, fd, cl, c, hm, G, Fn, hb⟩ := h.ex
  exact ⟨pe_methG ho.pe cl c hm G hr gd hb pass00 ha.pe hst hpl ht, sim_meth cl ho.sm ha.sm⟩
theorem de_m0 {pl : Sem Bool} (h : HasM X.prog X.w X.K X.mg X.base k x m q st ps F) (hr : Room k X.A) (gd : X.A.guards = some []) (ho : DE X o to wo)
    (ht : eval (.Call (.Attribute o m apos) [] [] pos) X.env = (do
      let ov ← eval o X.env
      standAt apos.atName
      let (f, first) ← holding [ov] (getMethod ov m pl)
      callWith pos f first (backTo pos (starEach [] X.env)) (backToKw pos (keywordEach [] X.env))) := by rfl) : DE X (.Call (.Attribute o m apos) [] [] pos) (tMethG X.K x m (lift X.K F) (fun _ => E0) to tNil) (wMeth x m F wo wNil) := by
  obtain ⟨C, f, fd, cl, c, hm, G, Fn, hb⟩ := h.ex
  exact ⟨pe_methG0 ho.pe cl c hm G hr gd hb pass00 ht, sim_meth cl ho.sm sim_nil⟩
theorem de_mk0 {pl : Sem Bool} (h : HasM X.prog X.w X.K X.mg X.base k x m q st ps F) (hr : Room k X.A) (gd : X.A.guards = some []) (kb : KwM m q st ps 1 ks idx) (ho : DE X o to wo) (hkw : DK X kws tk wk) (hall : (backToKw pos (keywordEach kws X.env)).all (·.1.isSome) = true := by rfl) (hks : (backToKw pos (keywordEach kws X.env)).filterMap (·.1) = ks := by rfl) (hpl : ((backTo pos (starEach [] X.env)).any (·.1) || (backToKw pos (keywordEach kws X.env)).any (·.1.isNone)) = false := by rfl)
    (ht : eval (.Call (.Attribute o m apos) [] kws pos) X.env = (do
      let ov ← eval o X.env
      standAt apos.atName
      let (f, first) ← holding [ov] (getMethod ov m pl)
      callWith pos f first (backTo pos (starEach [] X.env)) (backToKw pos (keywordEach kws X.env))) := by rfl) : DE X (.Call (.Attribute o m apos) [] kws pos) (tMethGK X.K x m 0 ks.length idx (lift X.K F) (fun _ => E0) to tNil tk) (wMethK x m 0 ks.length idx F wo wNil wk) := by
  obtain ⟨C, f, fd, cl, c, hm, G, Fn, hb⟩ := h.ex
  exact ⟨pe_methGK0 ho.pe cl c hm G hr gd (kbm_of Fn kb) pass00 hkw.pe hall hks hpl ht, sim_methK cl ho.sm sim_nil hkw.sm⟩
theorem dx_m0 {pl : Sem Bool} (h : HasM X.prog X.w X.K X.mg X.base k x m q st ps F) (hr : Room k X.A) (gd : X.A.guards = some []) (tw : Takes X W) (ho : DE X o to wo)
    (ht : eval (.Call (.Attribute o m apos) [] [] pos) X.env = (do
      let ov ← eval o X.env
      standAt apos.atName
      let (f, first) ← holding [ov] (getMethod ov m pl)
      callWith pos f first (backTo pos (starEach [] X.env)) (backToKw pos (keywordEach [] X.env))) := by rfl) : DX X W (.Call (.Attribute o m apos) [] [] pos) (tMethG X.K x m (lift X.K F) (L2.WE W) to tNil) (wMethX x m F wo wNil) := by
  obtain ⟨C, f, fd, cl, c, hm, G, Fn, hb⟩ := h.ex
  exact ⟨pe_methG0 ho.pe cl c hm G hr gd hb (fun σ => passAt tw σ) ht, sim_methX cl ho.sm sim_nil⟩
end
end L3
namespace L3
open PySem L2
section
variable {X : Cx} {W E3 : WX3} {e o value : Expr} {es : List Expr} {kws : List Keyword} {te to tv : TE} {we wo wv : WE} {tr tk : TA} {wr wk : WA} {pos pos' apos p : Pos} {k : Nat} {x m q f g : Str} {st : Stmt} {ps ks : List Str} {F : Fs} {L : List Str} {n : Nat} {idx : List Nat}
variable {C fa : Addr} {fd : FuncData} {sp : Sp} {E : L2.St → XK}
/-! ### C(..): a new instance -/
def tMakeG (K : PySem.W.Frag) (y : Str) (sp : Sp) (E : L2.St → XK) (t : TA) : TE := fun σ H Q => t σ H fun vs H1 => ∃ C, ClsAt K y C ∧ ∀ x dx, H1 x = none → H1 dx = none → dx ≠ x →
  sp (.ref x :: vs) (upd (upd H1 dx (.own x)) x (.ins C dx [])) (fun v H2 => v = .non ∧ Q (.ref x) H2) (E σ)
def tMakeGK (K : PySem.W.Frag) (y : Str) (n k : Nat) (idx : List Nat) (sp : Sp) (E : L2.St → XK) (t tk : TA) : TE := fun σ H Q => t σ H fun vs H1 => tk σ H1 fun zs H2 => vs.length = n ∧ zs.length = k ∧ ∃ C, ClsAt K y C ∧ ∀ x dx, H2 x = none → H2 dx = none → dx ≠ x →
  sp (perm idx (.ref x :: vs) zs) (upd (upd H2 dx (.own x)) x (.ins C dx [])) (fun v H3 => v = .non ∧ Q (.ref x) H3) (E σ)
theorem run_makeG {pins : List (Addr × Obj)} {σ : L2.St} {H : Hp} {s : Shared} {Q : VK} {us ws : List Value} {kw : List (Str × Value)} {vsx : V → List V} (M : Mk X.K C fa) (G : FnG X.prog X.w X.K X.mg X.base k fa fd ps sp) (hr : Room (k + 1) X.A) (gd : X.A.guards = some [])
    (hx : PassesAt (L2.CX X.prog X.w) X σ (E σ)) (I : Inv X pins σ H s) (wsx : Value → List Value) (hb : ∀ (s' : Shared) (u : Value), X.K.In s'.heap → BindsTo s' fd ⟨u :: us, kw⟩ (ps.zip (wsx u))) (r : ∀ v u, RelV v u → Vals (vsx v) (wsx u))
    (h : ∀ x dx, H x = none → H dx = none → dx ≠ x → sp (vsx (.ref x)) (upd (upd H dx (.own x)) x (.ins C dx [])) (fun v H2 => v = .non ∧ Q (.ref x) H2) (E σ)) :
    wpAny (model X.prog X.w) X.A (call (.ref C) us kw) (EP X pins σ Q) X.xe s := by
  have hq := h (s.heap.objs.size + 1) s.heap.objs.size (I.hok.fresh (Nat.le_succ _)) (I.hok.fresh (Nat.le_refl _)) (Nat.ne_of_lt (Nat.lt_succ_self _))
  have I2 := Inv.made (C := C) I
  have gd2 : (X.A.under (.builtin "type.__call__" ⟨.ref C :: us, kw⟩)).guards = some [] := by
    have e : (Code.builtin "type.__call__" ⟨.ref C :: us, kw⟩).isGuard = false := by
      show guardIds.contains "type.__call__" = false
      decide +kernel
    have e2 : (Code.builtin "type.__call__" ⟨.ref C :: us, kw⟩).guards = [] := by
      unfold Code.guards
      simp [e]
    unfold Around.under
    show pushGuards (Code.builtin "type.__call__" ⟨.ref C :: us, kw⟩).guards X.A.guards = some []
    rw [gd, e2]
    rfl
  refine wpAny_call (make_map (f := fa) I.kIn M.makes M.init (beq_iff_eq.mp M.fn) (codeAny_mono (G.run _ X.stack _ _ ⟨Value.ref (s.heap.objs.size + 1) :: us, kw⟩ (wsx (.ref (s.heap.objs.size + 1))) _ _ (E σ) gd2 (hr.make C us kw)
    (I2.env0.make C us kw) (hb _ _ I2.kIn) (r _ _ (show RelV (.ref _) (.ref _) from rfl)) hq) fun rr s' hq' => ?_))
  cases rr with
  | error e => exact hx pins _ _ e s' I2 hq'
  | ok fl =>
    cases fl with
    | ret u =>
      obtain ⟨v, H', I3, rv, ev, q3⟩ := I2.after hq'
      subst ev
      exact ⟨rv, ⟨V.ref (s.heap.objs.size + 1), H', I3, rfl, q3⟩⟩
    | next => exact False.elim hq'
    | brk => exact False.elim hq'
    | cont => exact False.elim hq'
theorem pe_makeG (cl : ClsAt X.K x C) (M : Mk X.K C fa) (G : FnG X.prog X.w X.K X.mg X.base k fa fd ps sp) (hr : Room (k + 1) X.A) (gd : X.A.guards = some []) (hg : Gl X x) (hm : X.mg x = some (.ref C)) (hb : Binds X.K fd ps []) (hx : ∀ σ, PassesAt (L2.CX X.prog X.w) X σ (E σ))
    (ha : PA X (e :: es) tr) (hdb : (x == ("__debug__" : Str)) = false := by decide) (he : starEach (e :: es) X.env = (false, eval e X.env) :: starEach es X.env := by rfl) (hpl : (backTo pos (starEach es X.env)).any (·.1) = false := by rfl) :
    PE X (.Call (.Name x p) (e :: es) [] pos) (tMakeG X.K x sp E tr) := by
  refine ⟨fun pins s σ H Q I h => ?_⟩
  refine wpAny_Call_Name_kw (ld_glob I hg hm ?_ hdb)
  refine PySem.W.callWith_K (h₀ := X.base) I.ok.mod.kin M.kp (thn (ha.run pos pins s σ H _ I h) fun us s1 ⟨vs, H1, I1, r, C', cl', q⟩ => ⟨I1.kIn, ?_⟩) he hpl
  obtain rfl := one_cls cl cl'
  have hlen : ∀ u : Value, (u :: us ++ []).length = ps.length := fun u => by
    have hq := q (s1.heap.objs.size + 1) s1.heap.objs.size (I1.hok.fresh (Nat.le_succ _)) (I1.hok.fresh (Nat.le_refl _)) (Nat.ne_of_lt (Nat.lt_succ_self _))
    have e := G.len _ _ _ _ hq
    rw [List.length_cons] at e
    rw [List.append_nil, List.length_cons, ← r.length]
    exact e
  exact run_makeG (us := us) (ws := us) (kw := []) (vsx := fun v => v :: vs) M G hr gd (hx σ) I1 (fun u => u :: us) (fun s' u X' => by
    have z := hb s' (u :: us) X' (hlen u)
    rw [List.append_nil] at z
    exact z) (fun v u h => .cons h r) q
theorem pe_makeGK0 (cl : ClsAt X.K x C) (M : Mk X.K C fa) (G : FnG X.prog X.w X.K X.mg X.base k fa fd ps sp) (hr : Room (k + 1) X.A) (gd : X.A.guards = some []) (hg : Gl X x) (hm : X.mg x = some (.ref C)) (hb : KB X.K fd ps 1 ks idx) (hx : ∀ σ, PassesAt (L2.CX X.prog X.w) X σ (E σ))
    (hkw : PK X kws tk) (hall : (backToKw pos (keywordEach kws X.env)).all (·.1.isSome) = true := by rfl) (hks : (backToKw pos (keywordEach kws X.env)).filterMap (·.1) = ks := by rfl)
    (hdb : (x == ("__debug__" : Str)) = false := by decide)
    (hpl : ((backTo pos (starEach [] X.env)).any (·.1) || (backToKw pos (keywordEach kws X.env)).any (·.1.isNone)) = false := by rfl) :
    PE X (.Call (.Name x p) [] kws pos) (tMakeGK X.K x 0 ks.length idx sp E tNil tk) := by
  refine ⟨fun pins s σ H Q I h => ?_⟩
  refine wpAny_Call_Name_kw (ld_glob I hg hm ?_ hdb)
  refine PySem.W.callWith_KW0 (h₀ := X.base) I.ok.mod.kin M.kp hall ?_ hpl
  refine thn (hkw.run pos pins s σ H _ I h) fun ws s2 ⟨zs, H2, I2, rz, l1, l2, C', cl', q2⟩ => ⟨I2.kIn, ?_⟩
  obtain rfl := one_cls cl cl'
  rw [hks]
  have a2 : ws.length = ks.length := by rw [← rz.length]; exact l2
  exact run_makeG (us := []) (ws := ws) (kw := ks.zip ws) (vsx := fun v => perm idx [v] zs) M G hr gd (hx σ) I2 (fun u => permU idx [u] ws) (fun s' u X' => hb s' [u] ws X' rfl a2) (fun v u h => perm_rel idx (.cons h .nil) rz) q2
/-- a new instance's address, its class, __init__ -/
def mkD (x : Str) (F : Fs) (args : D → List D) (M : Mp) (Q : KD) (R : XF) : Prop := ∀ a, M a = none → F (args (.tok a)) (setM M a (.ins x [])) (fun d M2 => d = .non ∧ Q (.tok a) M2) R
def wMake (x : Str) (F : Fs) (r : WA) : WE := fun ρ M Q => r ρ M fun ds M1 => mkD x F (fun t => t :: ds) M1 Q fun _ _ _ => False
def wMakeK (x : Str) (n k : Nat) (idx : List Nat) (F : Fs) (r rk : WA) : WE := fun ρ M Q => r ρ M fun ds M1 => rk ρ M1 fun es M2 => ds.length = n ∧ es.length = k ∧ mkD x F (fun t => permD idx (t :: ds) es) M2 Q fun _ _ _ => False
/-- the new instance is laid -/
theorem Go.made {K : PySem.W.Frag} {Z H : Hp} {M : Mp} {a dx : Addr} (S : Sat K Z H M) (cl : ClsAt K x C) (h1 : H a = none) (h2 : H dx = none) (ne : dx ≠ a) : Go K Z H M (upd (upd H dx (.own a)) a (.ins C dx [])) (setM M a (.ins x [])) := by
  have g1 := (Go.laid (o := .own a) S h2).1
  have h3 : upd H dx (.own a) a = none := by rw [upd_ne (Ne.symm ne)]; exact h1
  exact g1.trans (Go.put g1.sat (.inl h3) fun ex => ⟨C, dx, [], cl, upd_same, rfl, .nil⟩)
theorem made_lift {K : PySem.W.Frag} {Z H0 H : Hp} {M0 M : Mp} {Q : KD} {Q' : VK} {E1 : XK} {R : XF} {vsx : V → List V} {dsx : D → List D} (g0 : Go K Z H0 M0 H M) (cl : ClsAt K x C) (hd : mkD x F dsx M Q R)
    (hv : ∀ (H' : Hp) (M' : Mp) (a : Addr), Go K Z H M H' M' → RepL K (fz Z H' M') (vsx (.ref a)) (dsx (.tok a))) (q : ∀ v d H' M', Go K Z H0 M0 H' M' → Rep K (fz Z H' M') v d → Q d M' → Q' v H')
    (qx : ∀ y C dx vs (fs : XV) H' M', ClsAt K y C → Go K Z H0 M0 H' M' → fz Z H' M' dx = some (.xd (fs.1.zip vs)) → fs.1.length = vs.length → RepL K (fz Z H' M') vs fs.2 → R y fs M' → E1 (.ref C) (some dx) H') :
    ∀ a dx, H a = none → H dx = none → dx ≠ a → lift K F (vsx (.ref a)) (upd (upd H dx (.own a)) a (.ins C dx [])) (fun v H3 => v = .non ∧ Q' (.ref a) H3) E1 := fun a dx h1 h2 ne => by
  have g1 := Go.made g0.sat cl h1 h2 ne
  refine ⟨Z, _, _, _, R, g1.sat, hv _ _ a g1, hd a (g0.sat.free h1), fun v d H' M' g2 r2 q2 => ?_, fun y C dx vs fs H' M' ca g2 e2 l2 r2 z => ?_⟩
  · obtain ⟨rfl, q2⟩ := q2
    cases r2
    exact ⟨rfl, q _ _ H' M' ((g0.trans g1).trans g2) (.tok a) q2⟩
  · exact qx y C dx vs fs H' M' ca ((g0.trans g1).trans g2) e2 l2 r2 z
theorem sim_make {K : PySem.W.Frag} (cl : ClsAt K x C) (ha : SimA K tr wr) : SimE K (tMakeG K x (lift K F) (fun _ => E0) tr) (wMake x F wr) := by
  intro Z ρ M σ H Q Q' s h q
  refine ha Z ρ M σ H _ _ s h fun xs ds H1 M1 g1 r1 q1 => ⟨C, cl, ?_⟩
  exact made_lift (vsx := fun v => v :: xs) g1 cl q1 (fun H' M' a g => .cons (.tok a) (r1.up g.ex)) q (fun _ _ _ _ _ _ _ _ _ _ _ _ z => z.elim)
theorem sim_makek {K : PySem.W.Frag} (cl : ClsAt K x C) (ha : SimA K tr wr) (hk : SimA K tk wk) : SimE K (tMakeGK K x n k idx (lift K F) (fun _ => E0) tr tk) (wMakeK x n k idx F wr wk) := by
  intro Z ρ M σ H Q Q' s h q
  refine ha Z ρ M σ H _ _ s h fun xs ds H1 M1 g1 r1 q1 => ?_
  refine hk Z ρ M1 σ H1 _ _ (s.go g1) q1 fun ys es H2 M2 g2 r2 ⟨l1, l2, q2⟩ => ⟨by rw [r1.len]; exact l1, by rw [r2.len]; exact l2, C, cl, ?_⟩
  exact made_lift (vsx := fun v => perm idx (v :: xs) ys) (g1.trans g2) cl q2 (fun H' M' a g => perm_repL idx (.cons (.tok a) ((r1.up g2.ex).up g.ex)) (r2.up g.ex)) q (fun _ _ _ _ _ _ _ _ _ _ _ _ z => z.elim)
theorem de_n (h : HasC X.prog X.w X.K X.mg X.base k x q st ps F) (hr : Room (k + 1) X.A) (gd : X.A.guards = some []) (ha : DA X (e :: es) tr wr) (hg : Gl X x := by rfl) (hdb : (x == ("__debug__" : Str)) = false := by decide) (he : starEach (e :: es) X.env = (false, eval e X.env) :: starEach es X.env := by rfl) (hpl : (backTo pos (starEach es X.env)).any (·.1) = false := by rfl) : DE X (.Call (.Name x p) (e :: es) [] pos) (tMakeG X.K x (lift X.K F) (fun _ => E0) tr) (wMake x F wr) := by
  obtain ⟨C, f, fd, cl, hm, M, G, Fn, hb⟩ := h.ex
  exact ⟨pe_makeG cl M G hr gd hg hm hb pass00 ha.pe hdb he hpl, sim_make cl ha.sm⟩
theorem de_nk0 (h : HasC X.prog X.w X.K X.mg X.base k x q st ps F) (hr : Room (k + 1) X.A) (gd : X.A.guards = some []) (kb : KwM "__init__" q st ps 1 ks idx) (hkw : DK X kws tk wk) (hg : Gl X x := by rfl) (hall : (backToKw pos (keywordEach kws X.env)).all (·.1.isSome) = true := by rfl) (hks : (backToKw pos (keywordEach kws X.env)).filterMap (·.1) = ks := by rfl) (hdb : (x == ("__debug__" : Str)) = false := by decide) (hpl : ((backTo pos (starEach [] X.env)).any (·.1) || (backToKw pos (keywordEach kws X.env)).any (·.1.isNone)) = false := by rfl) : DE X (.Call (.Name x p) [] kws pos) (tMakeGK X.K x 0 ks.length idx (lift X.K F) (fun _ => E0) tNil tk) (wMakeK x 0 ks.length idx F wNil wk) := by
  obtain ⟨C, f, fd, cl, hm, M, G, Fn, hb⟩ := h.ex
  exact ⟨pe_makeGK0 cl M G hr gd hg hm (kbm_of Fn kb) pass00 hkw.pe hall hks hdb hpl, sim_makek cl sim_nil hkw.sm⟩
/-! ### the end of a class's text -/
theorem HasM.mk' {P : Program} {w : World} {K : PySem.W.Frag} {mg : Str → Option Value} {base : Heap} {k : Nat} {x m q : Str} {st : Stmt} {ps : List Str} {F : Fs} {C f : Addr} {fd : FuncData} (cl : ClsAt K x C) (c : Cls K C) (hm : Meth K C m f) (Fn : Fun K m q st f fd) (G : FnG P w K mg base k f fd ps (lift K F))
    (h : ∀ (kV doc pm : Value) (an : Option Addr) (cdv ct : Value) (us : List Value), us.length = ps.length → bindArgs (PySem.W.fnOf m q (defArgs st) (defBody st) (defScope st) .none kV doc pm an cdv ct) ⟨us, []⟩ = pure (ps.zip us)) : HasM P w K mg base k x m q st ps F := by
  refine ⟨C, f, fd, cl, c, hm, G, Fn, ?_⟩
  obtain ⟨oc, od, kV, doc, pm, an, cdv, ct, osl, rfl, lk, hcd⟩ := Fn.ex
  exact .all fun us hl => h kV doc pm an cdv ct us hl
theorem HasC.mk' {P : Program} {w : World} {K : PySem.W.Frag} {mg : Str → Option Value} {base : Heap} {k : Nat} {x q : Str} {st : Stmt} {ps : List Str} {F : Fs} {C f : Addr} {fd : FuncData} (cl : ClsAt K x C) (hc : mg x = some (.ref C)) (M : Mk K C f) (Fn : Fun K "__init__" q st f fd) (G : FnG P w K mg base k f fd ps (lift K F))
    (h : ∀ (kV doc pm : Value) (an : Option Addr) (cdv ct : Value) (us : List Value), us.length = ps.length → bindArgs (PySem.W.fnOf "__init__" q (defArgs st) (defBody st) (defScope st) .none kV doc pm an cdv ct) ⟨us, []⟩ = pure (ps.zip us)) : HasC P w K mg base k x q st ps F := by
  refine ⟨C, f, fd, cl, hc, M, G, Fn, ?_⟩
  obtain ⟨oc, od, kV, doc, pm, an, cdv, ct, osl, rfl, lk, hcd⟩ := Fn.ex
  exact .all fun us hl => h kV doc pm an cdv ct us hl
end
end L3
namespace L3
open PySem L2
/-! ### what many laws' texts share -/
/-- what stood stands -/
def Up (M M' : Mp) : Prop := ∀ b c, M b = some c → M' b = some c
theorem Up.refl (M : Mp) : Up M M := fun _ _ h => h
theorem Up.trans {M M' M'' : Mp} (a : Up M M') (b : Up M' M'') : Up M M'' := fun x c h => b x c (a x c h)
theorem Up.set {M : Mp} {p : Addr} {c : Cell} (h : M p = none) : Up M (setM M p c) := fun b d e => by
  by_cases hb : b = p
  · subst hb
    rw [h] at e
    cases e
  · rw [setM_ne hb]
    exact e
/-! values of any kind -/
def tyOk (M : Mp) (d : D) : Prop := (tyD M d).isSome = true
def okD (M : Mp) : Nat → D → Prop
  | 0, d => tyOk M d
  | n + 1, d => tyOk M d ∧ ∀ es, d = .tup es → es.length ≤ 1000 ∧ ∀ e ∈ es, okD M n e
theorem cut_ints (ns : List Int) (lo hi : Option Int) : ∃ ms : List Int, cutD (ns.map .int) lo hi = ms.map .int ∧ ms.length ≤ ns.length := by
  unfold cutD
  refine ⟨(ns.drop (HT.sIx (ns.map D.int).length 0 lo)).take (HT.sIx (ns.map D.int).length (ns.map D.int).length hi - HT.sIx (ns.map D.int).length 0 lo), ?_, ?_⟩
  · rw [← List.map_drop, ← List.map_take]
  · rw [List.length_take, List.length_drop]
    omega
theorem set_set {M : Mp} {p : Addr} {c d : Cell} : setM (setM M p c) p d = setM M p d := by
  funext b
  unfold setM
  split <;> rfl
theorem isi_i {M : Mp} {d : D} {T : String} {Q : KD} (h : tyOk M d) (hT : ∀ t, (subT t T).isSome = true) (q : ∀ t b, tyD M d = some t → subT t T = some b → Q (.bl b) M) : fIsi [d, .ty T] M Q := by
  obtain ⟨t, e⟩ := Option.isSome_iff_exists.mp h
  obtain ⟨b, e2⟩ := Option.isSome_iff_exists.mp (hT t)
  exact ⟨t, b, e, e2, q t b e e2⟩
theorem tok_ty {M : Mp} {a : Addr} {t : String} (h : tyD M (.tok a) = some t) : t = "list" ∨ t = "dict" := by
  have h' : (match M a with | some (.lst _) => some "list" | some (.dic _ _) => some "dict" | _ => none) = some t := h
  split at h'
  · cases h'
    exact .inl rfl
  · cases h'
    exact .inr rfl
  · cases h'
theorem isi_bool {M : Mp} {d : D} {Q : KD} (h : tyOk M d) (q : Q (.bl (match d with | .bl _ => true | _ => false)) M) : fIsi [d, .ty "bool"] M Q :=
  isi_i h (fun _ => rfl) fun t b e e2 => by
    cases d with
    | tok a => rcases tok_ty e with rfl | rfl <;> (cases e2; exact q)
    | ty _ => cases e
    | exc _ _ _ _ _ => cases e
    | tpl _ => cases e
    | _ => cases e; cases e2; exact q
theorem isi_tup {M : Mp} {d : D} {Q : KD} (h : tyOk M d) (q : Q (.bl (match d with | .tup _ => true | _ => false)) M) : fIsi [d, .ty "tuple"] M Q :=
  isi_i h (fun _ => rfl) fun t b e e2 => by
    cases d with
    | tok a => rcases tok_ty e with rfl | rfl <;> (cases e2; exact q)
    | ty _ => cases e
    | exc _ _ _ _ _ => cases e
    | tpl _ => cases e
    | _ => cases e; cases e2; exact q
theorem okD.ty {M : Mp} {d : D} : ∀ {n : Nat}, okD M n d → tyOk M d
  | 0, h => h
  | _ + 1, h => h.1
theorem okD.of {M : Mp} {n : Nat} {es : List D} (h : okD M (n + 1) (.tup es)) : es.length ≤ 1000 ∧ ∀ e ∈ es, okD M n e := h.2 es rfl
theorem ints_cost : ∀ v : List Int, costL (v.map D.int) = 212 * v.length
  | [] => rfl
  | a :: v => by
    show 210 + 2 + costL (v.map D.int) = _
    rw [ints_cost v, List.length_cons]
    omega
theorem vec_shw {n p : Nat} {B : Int} {v : List Int} (h : vk p B v) (hB : B ≤ 1000000) : shw (n + 1) (vec v) := fun d hd => by
  obtain ⟨a, ha, rfl⟩ := List.mem_map.mp hd
  have := h.2 a ha
  have e : ∀ m, shw m (.int a) ↔ a.natAbs < 2 ^ 200 := fun m => by cases m <;> exact Iff.rfl
  rw [e]
  exact Nat.lt_of_lt_of_le (by omega : a.natAbs < 2 ^ 30) (by decide)
theorem vecs_shw {p : Nat} {B : Int} {vs : List (List Int)} (h : ∀ v ∈ vs, vk p B v) (hB : B ≤ 1000000) : shw 2 (.tup (vs.map vec)) := fun d hd => by
  obtain ⟨v, hv, rfl⟩ := List.mem_map.mp hd
  exact vec_shw (h v hv) hB
theorem vec_cost {p : Nat} {B : Int} {v : List Int} (h : vk p B v) (hp : p ≤ 8) : cost (vec v) ≤ 1700 := by
  show costL (v.map D.int) + 4 ≤ _
  rw [ints_cost, h.1]
  omega
theorem vecs_cost {p : Nat} {B : Int} (hp : p ≤ 8) : ∀ {vs : List (List Int)}, (∀ v ∈ vs, vk p B v) → costL (vs.map vec) ≤ 1702 * vs.length
  | [], _ => Nat.le_refl _
  | v :: vs, h => by
    have h1 := vec_cost (h v List.mem_cons_self) hp
    have h2 := vecs_cost hp (vs := vs) fun u hu => h u (List.mem_cons_of_mem _ hu)
    show cost (vec v) + 2 + costL (vs.map vec) ≤ _
    rw [List.length_cons]
    omega
theorem rp {M : Mp} {p : Nat} {B : Int} {vs : List (List Int)} {Q : KD} (hp : p ≤ 8) (hB : B ≤ 1000000) (h : ∀ v ∈ vs, vk p B v) (hl : vs.length ≤ 1000) (q : Q (.str (shown (.tup (vs.map vec)))) M) : fRepr [.tup (vs.map vec)] M Q := by
  refine repr_of (n := 2) (by decide) (vecs_shw h hB) ?_ q
  show costL (vs.map vec) + 4 ≤ _
  have := vecs_cost hp h
  omega
end L3
namespace L3
open PySem L2
/-! ### values of any shape that are no tokens: whole numbers up to B, texts up to 40 signs, tuples and lists up to L long, the empty dict -/
def val (B L : Nat) : Nat → D → Prop
  | _, .non => True
  | _, .bl _ => True
  | _, .int i => i.natAbs ≤ B
  | _, .str x => PySem.PyData.strOk x = true ∧ x.length ≤ 40
  | _, .ty _ => False
  | _, .tok _ => False
  | _, .exc _ _ _ _ _ => False
  | _, .tpl _ => False
  | _, .dct ks ds => ks = [] ∧ ds = []
  | 0, .tup _ => False
  | 0, .lst _ => False
  | n + 1, .tup ds => ds.length ≤ L ∧ ∀ d ∈ ds, val B L n d
  | n + 1, .lst ds => ds.length ≤ L ∧ ∀ d ∈ ds, val B L n d
/-! the text of a whole number -/
/-! ### regions, places, cuts -/
end L3
namespace L3
open PySem L2
/-! ### items, sieves, pairs, deeds, states -/
def labD (x : Str × Int) : D := .tup [.str x.1, .int x.2]
structure Itm where
  key : Int
  vec : List Int
  labs : List (Str × Int)
def Itm.d (i : Itm) : D := .tup [.int i.key, L3.vec i.vec, .tup (i.labs.map labD)]
inductive Sv where
  | all | has (n : Str) | inn (n : Str) (lo hi : Int) | no (s : Sv) | conj (ss : List Sv) | disj (ss : List Sv)
mutual
def Sv.d : Sv → D
  | .all => .tup [.str "all"]
  | .has n => .tup [.str "has", .str n]
  | .inn n lo hi => .tup [.str "in", .str n, .int lo, .int hi]
  | .no s => .tup [.str "not", s.d]
  | .conj ss => .tup (.str "and" :: Sv.ds ss)
  | .disj ss => .tup (.str "or" :: Sv.ds ss)
def Sv.ds : List Sv → List D
  | [] => []
  | s :: ss => s.d :: Sv.ds ss
end
/-! pairs of a distance and a key -/
/-! deeds -/
inductive Dd where
  | take (k : Int) | put (i : Itm)
def Dd.d : Dd → D
  | .take k => .tup [.str "take", .int k]
  | .put i => .tup [.str "put", i.d]
def Dd.key : Dd → Int
  | .take k => k
  | .put i => i.key
/-! a dict of items by their keys -/
/-! the pairs of the items that pass -/
end L3
namespace L3
open PySem L2
/-! ### comparisons of data -/
/-! ### o.f += e -/
section
variable {X : Cx} {W E3 : WX3} {e o value : Expr} {es : List Expr} {kws : List Keyword} {te to tv : TE} {we wo wv : WE} {tr tk : TA} {wr wk : WA} {pos pos' apos p tpos : Pos} {k : Nat} {x m q f g : Str} {st : Stmt} {ps ks : List Str} {F : Fs} {L : List Str} {n : Nat} {idx : List Nat}
variable {C fa : Addr} {fd : FuncData} {sp : Sp} {E : L2.St → XK}
/-! ### C(..) where keyword-only parameters with whole numbers as defaults lack -/
def kwI (is : List (Str × Int)) : List (Str × V) := is.map fun p => (p.1, .int p.2)
structure HasCD (P : Program) (w : World) (K : PySem.W.Frag) (mg : Str → Option Value) (base : Heap) (k : Nat) (x q : Str) (st : Stmt) (ps : List Str) (F : Fs) (is : List (Str × Int)) : Prop where
  ex : ∃ (C f : Addr) (fd : FuncData), ClsAt K x C ∧ mg x = some (.ref C) ∧ Mk K C f ∧ FnG P w K mg base k f fd ps (lift K F) ∧ FunD K "__init__" q (defArgs st) (defBody st) (defScope st) [] (kwI is) f fd
theorem HasCD.fn {P : Program} {w : World} {K : PySem.W.Frag} {q : Str} {st : Stmt} {C f : Addr} {fd : FuncData} {is : List (Str × V)} (F : FunD K "__init__" q (defArgs st) (defBody st) (defScope st) [] is f fd) : Fun K "__init__" q st f fd := by
  obtain ⟨oc, od, dV, kV, doc, pm, an, cdv, ct, osl, rfl, lk, hcd, hD, hK⟩ := F.ex
  rcases hD with ⟨_, rfl⟩ | ⟨e, _⟩
  · exact ⟨⟨oc, od, kV, doc, pm, an, cdv, ct, osl, rfl, lk, hcd⟩, F.kp⟩
  · exact absurd rfl e
end
end L3
namespace L3
open PySem L2
/-! ### standing questions: what is kept of all pairs -/
end L3
namespace L3
open PySem L2
end L3
namespace L3
open PySem PySem.Spec PyProof.Rows L2
/-! ### max of a list or a tuple by a key that gives a new tuple of whole numbers -/
section
variable {prog : Program} {w : World} {A : Around} {E : Value → Shared → Prop} {s : Shared}
def keptK (s s' : Shared) : Prop := ∃ g tk, s' = { s with heap := g, toks := tk } ∧ ∀ b o, s.heap.get? b = some o → g.get? b = some o
theorem keptK.refl : keptK s s := ⟨s.heap, s.toks, rfl, fun _ _ e => e⟩
end
/-! ### the key (x[0], -x[1]) -/
end L3
namespace L3
open PySem PySem.Spec PyProof.Rows L2
end L3
namespace L3
open PySem PySem.Spec PyProof.Rows L2
/-! ### a lambda made: its code object is new, or the table tells it -/
/-! ### max(e, key=lambda x: (x[0], -x[1])) of pairs of whole numbers -/
/-! ### a def whose code object's table is known -/
end L3
namespace L3
open PySem L2
/-! ### the law's own call, where defs of it make code objects -/
end L3
namespace L3
open PySem L2
end L3
namespace L3
open PySem PySem.Spec PyProof.Rows L2
/-! ### sets of whole numbers and texts that may be walked -/
section
variable {P : Program} {w : World} {A : Around} {E : Value → Shared → Prop} {s : Shared} {a : Addr}
def mkOf (e : Int × Value) : Key := match e.2 with | .int k _ => .inl k | .str x _ => .inr x | _ => .inl 0
def ItemM (w : World) (e : Int × Value) : Prop := keyIs (mkOf e) e.2 = true ∧ e.1 = keyH w (mkOf e)
/-- the set at a: what is in it (S), at most n -/
def SetMx (w : World) (h : Heap) (a : Addr) (S : Key → Prop) (n : Nat) : Prop := ∃ (o : Obj) (es : Array (Int × Value)) (ep : Nat) (t : SetTable), h.get? a = some o ∧ o.ExactSet ∧ o.data = .set es ep t ∧ (∀ e ∈ es.toList, ItemM w e) ∧ (es.toList.map mkOf).Nodup ∧
  (∀ k, k ∈ es.toList.map mkOf ↔ S k) ∧ t.fits es.size = true ∧ es.size ≤ n ∧ Ris t.place.toList ∧ (w.params.followText "set-order" = true ∨ t.led = true)
theorem SetMx.at {h h' : Heap} {S : Key → Prop} {n : Nat} (R : SetMx w h a S n) (k : ∀ o, h.get? a = some o → h'.get? a = some o) : SetMx w h' a S n := R.imp fun o ⟨es, ep, t, e, r⟩ => ⟨es, ep, t, k o e, r⟩
end
end L3
namespace L3
open PySem PySem.Spec PyProof.Rows L2
/-! ### set(xs) of whole numbers and texts -/
end L3
namespace L3
open PySem PySem.Spec PyProof.Rows L2
/-! ### sorted(set(xs)) of whole numbers or of texts -/
end L3
namespace L3
open PySem PySem.Spec PyProof.Rows L2
end L3
namespace L3
open PySem PySem.Spec PyProof.Rows L2
/-! ### boxes of draws: a list of three whole numbers whose numbers nobody asks for -/
end L3
namespace L3
open PySem L2
end L3
namespace L3
open PySem L2
/-! ### sorted(a dict) by whole numbers -/
end L3
namespace L3
open PySem L2
/-! ### zip of a list and a tuple, in any sequence -/
def n2 (xs ys : List V) : Nat := min xs.length ys.length
/-! by data -/
end L3
namespace L3
open PySem L2
/-! ### dict == dict, whose values are plain data -/
/-! ### xs.pop(i) -/
end L3
namespace L3
open PySem L2
/-! ### sorted of pairs (a whole number, anything), the numbers unlike -/
end L3
namespace L3
open PySem L2
/-! ### tuple * int, 1 too -/
end L3
namespace L3
open PySem L2
/-! ### equality of plain data with any texts -/
end L3
namespace L3
open PySem L2
/-! ### int(x) of an int, a bool, a text of digits -/
/-! ### xs[::-1] of a list -/
/-! ### f-strings -/
/-! ### a constant of the module that is a number or a text -/
end L3
namespace L3
open PySem L2
/-! ### comprehensions of two clauses -/
/-! ### list(range(a, b)) -/
/-! ### xs.pop(), xs.extend(ys), xs[::-1] as a list that may change -/
section
variable {X : Cx} {o e : Expr} {es : List Expr} {to te : TE} {tr : TA} {wo we : WE} {wr : WA} {apos cpos pos p1 p2 p3 : Pos} {k : Nat}
theorem RepL.unsnoc {K : PySem.W.Frag} {H : Hp} : ∀ {es : List D} {x : D} {vs : List V}, RepL K H vs (es ++ [x]) → ∃ us w, vs = us ++ [w] ∧ RepL K H us es ∧ Rep K H w x
  | [], x, _, .cons r t => by
    cases t
    exact ⟨[], _, rfl, .nil, r⟩
  | e :: es, x, _, .cons r t => by
    obtain ⟨us, w, rfl, h1, h2⟩ := RepL.unsnoc t
    exact ⟨_ :: us, w, rfl, .cons r h1, h2⟩
def wPop0 (wo : WE) : WE := fun ρ M Q => wo ρ M fun d M1 => match d with
  | .tok a => ∃ es x, M1 a = some (.lst (es ++ [x])) ∧ Q x (setM M1 a (.lst es))
  | _ => False
theorem de_pop0 (ho : DE X o to wo) (hs : attributeBase o "pop" X.env (eval o X.env) = eval o X.env := by rfl) (h3 : (apos.endLine == cpos.line) = true := by rfl) :
    DE X (.Call (.Attribute o "pop" apos) [] [] cpos) (tBM0 X.K "list" rPop to) (wPop0 wo) := by
  refine ⟨pe_bm0 PySem.F.plainAttrs_list PySem.F.slot_list_pop PySem.F.type_list_pop (show MtR X "list.pop" rPop from mt_pop) ho.pe hs h3, fun Z ρ M σ H Q Q' s h q => ?_⟩
  refine ho.sm Z ρ M σ H _ _ s h fun x d H1 M1 g1 r1 q1 => ?_
  cases d with
  | tok a =>
    cases r1
    obtain ⟨es, y, hm, q2⟩ := q1
    obtain ⟨vs, e0, rl⟩ := g1.sat.cell a _ hm
    obtain ⟨us, w, rfl, ru, rw'⟩ := RepL.unsnoc rl
    refine ⟨.inl ⟨rfl, _, .inl (.inl e0)⟩, a, us ++ [w], w, rfl, rfl, e0, by simp, ?_⟩
    rw [List.dropLast_concat]
    have g3 := Go.putL (p := a) g1.sat (.inr ⟨_, hm⟩) ru
    exact q _ _ _ _ (g1.trans g3) (rw'.up g3.ex) q2
  | _ => exact q1.elim
end
/-! ### x += e, x -= e of whole numbers, x a name -/
end L3
namespace L3
open PySem L2
/-! ### a dict of the module, text keys: d[k], k in d -/
/-! ### isinstance(x, C), C an own class -/
end L3
namespace L3
open PySem L2
/-! ### sorted(a dict) by texts -/
/-! ### a slice of a list that is changed later -/
/-! ### a sum of lists that is changed later -/
end L3
namespace L3
open PySem PySem.Spec PyProof.Rows L2
/-! ### sorted(a tuple), of any data -/
end L3
namespace L3
open PySem PySem.Spec PyProof.Rows L2 HT
/-! ### a tuple backwards: t[::-1] -/
end L3
namespace L3
open PySem PySem.Spec PyProof.Rows L2
/-! ### the module's dicts, from what the top has left -/
/-! ### len(set(xs)) of whole numbers or of texts -/
end L3
namespace L3
open PySem L2
/-! ### a comprehension's list that is changed later -/
def mkT (Q : KD) : KD := fun d M1 => match d with
  | .lst ds => ∀ p, M1 p = none → Q (.tok p) (setM M1 p (.lst ds))
  | _ => False
def wLcM (wi : WI) (g : WG) (wt : WT) (we : WE) (vs : List Nat) : WE := fun ρ M Q => wLc wi g wt we vs ρ M (mkT Q)
theorem fz_zed {Z H : Hp} {M : Mp} {a : Addr} {o : HO} {c : Cell} (h : M a = none) : fz (upd Z a o) H M = fz Z H (setM M a c) := by
  funext b
  unfold fz
  by_cases hb : b = a
  · subst hb
    rw [h, upd_same, setM_same]
  · rw [upd_ne hb, setM_ne hb]
theorem CellOk.eqz {K : PySem.W.Frag} {Z Z2 H : Hp} {M M2 : Mp} {a : Addr} {c : Cell} (h : CellOk K Z H M a c) (e : fz Z H M = fz Z2 H M2) (u : ∀ b c', M b = some c' → M2 b = some c') : CellOk K Z2 H M2 a c := by
  cases c with
  | lst ds => obtain ⟨vs, h1, h2⟩ := h; exact ⟨vs, h1, e ▸ h2⟩
  | drw a0 => exact ⟨u _ _ h.1, h.2⟩
  | aux => exact h
  | ins x fs => obtain ⟨C, dx, fv, h1, h2, h3⟩ := h; exact ⟨C, dx, fv, h1, h2, e ▸ h3⟩
  | dic lk kd => obtain ⟨kv, u', h1, h2, h3⟩ := h; exact ⟨kv, u', h1, h2, e ▸ h3⟩
  | tab x q =>
    have h : TabOk K (fz Z H M) H a x q := h
    rw [e] at h
    exact h
  | box => exact h
  | err x fs =>
    have h : ErrOk K (fz Z H M) H a x fs := h
    rw [e] at h
    exact h
section
variable {X : Cx} {E : WX3} {e a b c elt iter tgt : Expr} {es ifs : List Expr} {t ta tb tc te : TE} {w wa wb wc we : WE} {pos : Pos} {k : Nat} {tr : TA} {wr : WA} {tt : TT} {wt : WT} {tg : TG} {wg : WG} {ti : TI} {wi : WI}
theorem sim_lcM {K : PySem.W.Frag} {vs : List Nat} (hi : SimI K ti wi) (hg : SimG K tg wg) (ht : SimT K tt wt) (he : SimE K te we) (kp : KeepG vs tg) : SimE K (tLc ti tg tt te vs) (wLcM wi wg wt we vs) := by
  intro Z ρ M σ H Q Q' r h q
  refine hi Z ρ M σ H _ _ r h fun J ds Ok H1 M1 g1 wk q1 => ?_
  intro D hD
  have m1 := g1.sat.free hD
  have z1 := g1.sat.freeZ hD
  have f1 : fz Z H1 M1 D = none := by
    rw [fz_none m1 z1]
    exact hD
  have s0 := Sat.swap (Z' := upd Z D (.lst [])) (H' := upd H1 D (.lst [])) g1.sat m1 f1 (fun b hb => upd_ne hb) (fun b hb => upd_ne hb) (fun o e => by rw [upd_same] at e ⊢; exact e)
  refine ⟨fun i m H' => m + i = ds.length ∧ ∃ (acc : List L3.D) (va : List V) (M' : Mp), Sat K (upd Z D (.lst va)) H' M' ∧ Same (fz Z H1 M1) (fz (upd Z D (.lst va)) H' M') ∧ RepL K (fz (upd Z D (.lst va)) H' M') va acc ∧ wLcL wg wt we Ok (wipeE ρ vs) (ds.drop i) acc M' (mkT Q),
    ⟨ds.length, rfl, [], [], M1, s0.1, s0.2, .nil, q1⟩, fun i m H' ⟨em, acc, va, M', S, ex, ra, l⟩ => ?_⟩
  have zd : upd Z D (.lst va) D = some (.lst va) := upd_same
  by_cases hlt : i < ds.length
  · have e : ds.drop i = ds[i] :: ds.drop (i + 1) := List.drop_eq_getElem_cons hlt
    rw [e] at l
    obtain ⟨ok, hacc, l⟩ := l
    obtain ⟨go, yl⟩ := (wk _ H' M' S ex ok).1 i ds[i] (List.getElem?_eq_getElem hlt)
    refine .inr ⟨go, fun H2 => ∃ (acc : List L3.D) (va : List V) (M' : Mp), Sat K (upd Z D (.lst va)) H2 M' ∧ Same (fz Z H1 M1) (fz (upd Z D (.lst va)) H2 M') ∧ RepL K (fz (upd Z D (.lst va)) H2 M') va acc ∧ wLcL wg wt we Ok (wipeE ρ vs) (ds.drop (i + 1)) acc M' (mkT Q),
      fun H2 z => ⟨m - 1, by omega, by omega, z⟩, fun x H3 hy => ?_⟩
    obtain ⟨g3, rp⟩ := yl x H3 hy
    have r3 : R3 K (upd Z D (.lst va)) (wipeE ρ vs) M' (wipe σ vs) H3 := ⟨g3.sat, (wipe_rel (r.env.up g1.ex) vs).up (ex.trans g3.ex)⟩
    have ww : wipe (wipe σ vs) vs = wipe σ vs := by
      have idem : ∀ us : List Nat, (∀ u ∈ us, u ∈ vs) → wipe (wipe σ us) vs = wipe σ vs := fun us => by
        induction us with
        | nil => intro _; rfl
        | cons u us ih =>
          intro hu
          show wipe ((wipe σ us).set u none) vs = _
          rw [wipe_set (hu u List.mem_cons_self)]
          exact ih fun y hy => hu y (List.mem_cons_of_mem _ hy)
      exact idem vs fun u hu => hu
    refine kp x _ _ H3 _ ww ?_
    refine hg _ x _ _ M' _ H3 _ _ r3 rp l fun ρ4 M4 σ4 H4 r4 g4 z => ?_
    refine ht _ ρ4 M4 σ4 H4 _ _ r4 z fun b H5 M5 g5 z5 => ?_
    have g35 := (g3.trans g4).trans g5
    cases b with
    | true =>
      rw [if_pos rfl] at z5 ⊢
      refine he _ ρ4 M5 σ4 H5 _ _ (r4.go g5) z5 fun y d H6 M6 g6 r6 z6 => ?_
      have g36 := g35.trans g6
      have h6 := g36.sat.zed D _ zd
      refine ⟨va, h6.1, by rw [ra.len]; exact hacc, ?_⟩
      have s6 := Sat.swap (Z' := upd Z D (.lst (va ++ [y]))) (H' := upd H6 D (.lst (va ++ [y]))) g36.sat h6.2 (fz_hid zd) (fun b hb => upd_ne hb) (fun b hb => by rw [upd_ne hb, upd_ne hb]) (fun o e => by rw [upd_same] at e ⊢; exact e)
      exact ⟨acc ++ [d], va ++ [y], M6, s6.1, (ex.trans g36.ex).trans s6.2, ((ra.up g36.ex).up s6.2).app (.cons (r6.up s6.2) .nil), z6⟩
    | false =>
      rw [if_neg Bool.false_ne_true] at z5 ⊢
      exact ⟨acc, va, M5, g35.sat, ex.trans g35.ex, ra.up g35.ex, z5⟩
  · have e : ds.drop i = [] := List.drop_eq_nil_of_le (by omega)
    rw [e] at l
    have hd := S.zed D _ zd
    refine .inl ⟨(wk _ H' M' S ex l.1).2 i (by omega), ?_⟩
    have fe := fz_zed (Z := Z) (H := H') (o := .lst va) (c := .lst acc) hd.2
    have S2 : Sat K Z H' (setM M' D (.lst acc)) := by
      constructor
      · intro a c hc
        by_cases ha : a = D
        · subst ha
          rw [setM_same] at hc
          cases hc
          exact ⟨va, hd.1, fe ▸ ra⟩
        · rw [setM_ne ha] at hc
          exact (S.cell a c hc).eqz fe fun b c' hb => by
            have hn : b ≠ D := fun z => by
              rw [z, hd.2] at hb
              cases hb
            rw [setM_ne hn]
            exact hb
      · intro a o ha
        have hn : a ≠ D := fun z => by
          rw [z, z1] at ha
          cases ha
        have z := S.zed a o (by rw [upd_ne hn]; exact ha)
        exact ⟨z.1, by rw [setM_ne hn]; exact z.2⟩
    exact q _ _ H' _ ⟨S2, by rw [← fe]; exact g1.ex.trans ex⟩ (.tok D) (l.2 D hd.2)
theorem de_lcM0 {scope : Scope} {own : List (Str × Nat)} (hc : X.calm = true) (hN : X.N.Nodup) (hi : DI X tgt iter ti wi) (ok : BlkOk X.N X.env.scope scope own)
    (hg : ∀ (s : Shared) (H : Hp) (C : Addr) (cl : List (Str × Addr)) (fp : List Addr), DG (X.blk s H scope (compEnvC scope cl C X.env) fp) tgt tg wg) (ht : ∀ (s : Shared) (H : Hp) (C : Addr) (cl : List (Str × Addr)) (fp : List Addr), DTs (X.blk s H scope (compEnvC scope cl C X.env) fp) ifs tt wt)
    (he : ∀ (s : Shared) (H : Hp) (C : Addr) (cl : List (Str × Addr)) (fp : List Addr), DE (X.blk s H scope (compEnvC scope cl C X.env) fp) elt te we) (kp : KeepG (own.map (·.2)) tg) (hs : ∀ x, foldedSetIterable iter X.env x = pure x := by intro _; rfl) :
    DE X (.ListComp elt [⟨tgt, iter, ifs, 0⟩] scope pos) (tLc ti tg tt te (own.map (·.2))) (wLcM wi wg wt we (own.map (·.2))) :=
  ⟨pe_lc hc hN hi.pe ok (fun s H C cl fp => (hg s H C cl fp).pe) (fun s H C cl fp => (ht s H C cl fp).pe) (fun s H C cl fp => (he s H C cl fp).pe) hs, sim_lcM hi.sm (hg X.s_0 X.H_0 0 [] []).sm (ht X.s_0 X.H_0 0 [] []).sm (he X.s_0 X.H_0 0 [] []).sm kp⟩
section
variable {scope : Scope} {own : List (Str × Nat)} {gF : Shared → Hp → Addr → List (Str × Addr) → List Addr → TG} {tF : Shared → Hp → Addr → List (Str × Addr) → List Addr → TT} {eF : Shared → Hp → Addr → List (Str × Addr) → List Addr → TE}
theorem de_lcM (hc : X.calm = true) (hN : X.N.Nodup) (hi : DI X tgt iter ti wi) (ok : BlkOk X.N X.env.scope scope own)
    (hg : ∀ (s : Shared) (H : Hp) (C : Addr) (cl : List (Str × Addr)) (fp : List Addr), DG (X.blk s H scope (compEnvC scope cl C X.env) fp) tgt (gF s H C cl fp) wg) (ht : ∀ (s : Shared) (H : Hp) (C : Addr) (cl : List (Str × Addr)) (fp : List Addr), DTs (X.blk s H scope (compEnvC scope cl C X.env) fp) ifs (tF s H C cl fp) wt)
    (he : ∀ (s : Shared) (H : Hp) (C : Addr) (cl : List (Str × Addr)) (fp : List Addr), DE (X.blk s H scope (compEnvC scope cl C X.env) fp) elt (eF s H C cl fp) we) (kp : KeepG (own.map (·.2)) (gF X.s_0 X.H_0 0 [] [])) (hs : ∀ x, foldedSetIterable iter X.env x = pure x := by intro _; rfl)
    (qg : ∀ s H C cl fp, gF s H C cl fp = gF X.s_0 X.H_0 0 [] [] := by intros; rfl) (qt : ∀ s H C cl fp, tF s H C cl fp = tF X.s_0 X.H_0 0 [] [] := by intros; rfl) (qe : ∀ s H C cl fp, eF s H C cl fp = eF X.s_0 X.H_0 0 [] [] := by intros; rfl) :
    DE X (.ListComp elt [⟨tgt, iter, ifs, 0⟩] scope pos) (tLc ti (gF X.s_0 X.H_0 0 [] []) (tF X.s_0 X.H_0 0 [] []) (eF X.s_0 X.H_0 0 [] []) (own.map (·.2))) (wLcM wi wg wt we (own.map (·.2))) :=
  de_lcM0 hc hN hi ok (fun s H C cl fp => qg s H C cl fp ▸ hg s H C cl fp) (fun s H C cl fp => qt s H C cl fp ▸ ht s H C cl fp) (fun s H C cl fp => qe s H C cl fp ▸ he s H C cl fp) kp hs
end
end
end L3
namespace L3
open PySem PySem.Spec PyProof.Rows L2 HT
/-! ### a list made longer by a tuple backwards: xs.extend(t[::-1]) -/
end L3
namespace L3
open PySem L2
/-! ### a == b, a of an own class that has an __eq__ -/
end L3
namespace L3
open PySem L2
/-! ### a def with keyword-only parameters, by its contract -/
end L3
namespace PySem.HandSPX
open PySem PySem.Calls
open Builtin Builtin.ObjectAttr
end PySem.HandSPX
namespace L3
open PySem L2
/-! ### exceptions as values: cells `.err` -/
theorem Go.err {K : PySem.W.Frag} {Z H : Hp} {M : Mp} {a C dx : Addr} {x : Str} {fv : List (Str × V)} {fs : List (Str × D)} (S : Sat K Z H M) (cl : ClsAt K x C) (h1 : H a = none) (hd : fz Z H M dx = some (exd dx fv)) (r : RepF K (fz Z H M) fv fs) :
    Go K Z H M (upd H a (exo a C (some dx))) (setM M a (.err x fs)) := Go.put S (.inl h1) fun ex => ⟨C, dx, fv, cl, upd_same, ex _ _ hd, r.up ex⟩
/-! str of a tuple of data -/
end L3
namespace L3
/-! ### binary heaps -/
section
variable {β : Type} {le : β → β → Prop} {f f' : Nat → Option β} {t pos : Nat}
def par (i : Nat) : Nat := (i - 1) / 2
inductive Desc (t : Nat) : Nat → Prop
  | top : Desc t t
  | kid {i : Nat} : 0 < i → Desc t (par i) → Desc t i
theorem Desc.ge (h : Desc t pos) : t ≤ pos := by
  induction h with
  | top => exact Nat.le_refl _
  | kid h0 _ ih => unfold par at ih; omega
theorem Desc.up (h : Desc t pos) (h1 : t < pos) : Desc t (par pos) := by
  cases h with
  | top => omega
  | kid _ h => exact h
theorem Desc.zero : ∀ n : Nat, Desc 0 n := fun n => by
  induction n using Nat.strongRecOn with
  | _ n ih =>
    cases n with
    | zero => exact .top
    | succ n => exact .kid (Nat.succ_pos _) (ih _ (by unfold par; omega))
/-- whatever stands under a place from t on is no less than it -/
def HF (le : β → β → Prop) (f : Nat → Option β) (t : Nat) : Prop := ∀ i p q, 0 < i → t ≤ par i → f i = some p → f (par i) = some q → le q p
def By (le : β → β → Prop) (f : Nat → Option β) (t pos : Nat) : Prop := ∀ i p q, 0 < i → par i = pos → t < pos → f i = some p → f (par pos) = some q → le q p
def UF (le : β → β → Prop) (f : Nat → Option β) (t pos : Nat) : Prop := (∀ i p q, 0 < i → i ≠ pos → t ≤ par i → f i = some p → f (par i) = some q → le q p) ∧ By le f t pos
def DF (le : β → β → Prop) (f : Nat → Option β) (t pos : Nat) : Prop := (∀ i p q, 0 < i → i ≠ pos → par i ≠ pos → t ≤ par i → f i = some p → f (par i) = some q → le q p) ∧ By le f t pos
theorem par_lt {i : Nat} (h : 0 < i) : par i < i := by unfold par; omega
theorem up_step {x p : β} (tr : ∀ a b c, le a b → le b c → le a c) (hp : t < pos) (D : Desc t pos) (U : UF le f t pos) (fx : f pos = some x) (fp : f (par pos) = some p) (lxp : le x p)
    (hf : ∀ k, f' k = if k = pos then some p else if k = par pos then some x else f k) : UF le f' t (par pos) := by
  have h0 : 0 < pos := by omega
  have hpl := par_lt h0
  have D2 := D.up hp
  have t1 := D2.ge
  refine ⟨fun i a b i0 ine ti ea eb => ?_, fun i a b i0 ei tp ea eb => ?_⟩
  · rw [hf] at ea eb
    by_cases e1 : i = pos
    · subst e1
      rw [if_pos rfl] at ea
      rw [if_neg (by omega), if_pos rfl] at eb
      cases ea
      cases eb
      exact lxp
    · rw [if_neg e1, if_neg ine] at ea
      by_cases e2 : par i = pos
      · rw [if_pos e2] at eb
        cases eb
        exact U.2 i a p i0 e2 hp ea fp
      · rw [if_neg e2] at eb
        by_cases e3 : par i = par pos
        · rw [if_pos e3] at eb
          cases eb
          exact tr _ _ _ lxp (U.1 i a p i0 e1 ti ea (by rw [e3]; exact fp))
        · rw [if_neg e3] at eb
          exact U.1 i a b i0 e1 ti ea eb
  · have pl2 := par_lt (i := par pos) (by omega)
    have D3 := (D2.up tp).ge
    rw [hf] at ea eb
    rw [if_neg (by omega), if_neg (by omega)] at eb
    have lbp : le b p := U.1 (par pos) p b (by omega) (by omega) D3 fp eb
    by_cases e1 : i = pos
    · subst e1
      rw [if_pos rfl] at ea
      cases ea
      exact lbp
    · have := par_lt i0
      rw [if_neg e1, if_neg (by omega)] at ea
      exact tr _ _ _ lbp (U.1 i a p i0 e1 (by omega) ea (by rw [ei]; exact fp))
theorem up_end (D : Desc t pos) (U : UF le f t pos) (h : pos = t ∨ ∀ x p, f pos = some x → f (par pos) = some p → le p x) : HF le f t := fun i p q i0 ti ea eb => by
  by_cases e : i = pos
  · subst e
    rcases h with e | h
    · have := par_lt i0
      omega
    · exact h p q ea eb
  · exact U.1 i p q i0 e ti ea eb
theorem down_step {x c : β} {child : Nat} (D : Desc t pos) (U : DF le f t pos) (c0 : 0 < child) (ec : par child = pos) (fc : f child = some c) (fx : f pos = some x) (sib : ∀ i s, 0 < i → par i = pos → i ≠ child → f i = some s → le c s)
    (hf : ∀ k, f' k = if k = pos then some c else if k = child then some x else f k) : DF le f' t child := by
  have hpl := par_lt c0
  have t1 := D.ge
  refine ⟨fun i a b i0 ine ine2 ti ea eb => ?_, fun i a b i0 ei tp ea eb => ?_⟩
  · rw [hf] at ea eb
    by_cases e1 : i = pos
    · subst e1
      rw [if_pos rfl] at ea
      have := par_lt i0
      rw [if_neg (by omega), if_neg ine2] at eb
      cases ea
      exact U.2 child c b c0 ec (by omega) fc eb
    · rw [if_neg e1, if_neg ine] at ea
      by_cases e2 : par i = pos
      · rw [if_pos e2] at eb
        cases eb
        exact sib i _ i0 e2 ine ea
      · rw [if_neg e2, if_neg ine2] at eb
        exact U.1 i a b i0 e1 e2 ti ea eb
  · have := par_lt i0
    rw [hf] at ea eb
    rw [if_neg (by omega), if_neg (by omega)] at ea
    rw [if_pos ec] at eb
    cases eb
    exact U.1 i a c i0 (by omega) (by omega) (by omega) ea (by rw [ei]; exact fc)
theorem down_end (U : DF le f t pos) (h : ∀ i, 0 < i → par i = pos → f i = none) : UF le f t pos := ⟨fun i p q i0 e ti ea eb => by
  by_cases e2 : par i = pos
  · rw [h i i0 e2] at ea
    cases ea
  · exact U.1 i p q i0 e e2 ti ea eb, U.2⟩
theorem down_start (h : HF le f (t + 1)) : DF le f t t := ⟨fun i p q i0 e e2 ti ea eb => h i p q i0 (by omega) ea eb, fun i p q i0 e tp => by omega⟩
theorem hf_first (tr : ∀ a b c, le a b → le b c → le a c) (rf : ∀ a, le a a) (h : HF le f 0) {x : β} (f0 : f 0 = some x) (hd : ∀ i, (∃ a, f i = some a) → ∀ j, j < i → ∃ b, f j = some b) : ∀ i a, f i = some a → le x a := fun i => by
  induction i using Nat.strongRecOn with
  | _ i ih =>
    intro a ea
    by_cases e : i = 0
    · subst e
      rw [f0] at ea
      cases ea
      exact rf _
    · have hl := par_lt (i := i) (by omega)
      obtain ⟨b, eb⟩ := hd i ⟨a, ea⟩ _ hl
      exact tr _ _ _ (ih _ hl b eb) (h i a b (by omega) (Nat.zero_le _) ea eb)
theorem hf_none {n : Nat} (hn : ∀ i, n ≤ i → f i = none) : HF le f (n / 2) := fun i p q i0 ti ea _ => by
  rw [hn i (by unfold par at ti; omega)] at ea
  cases ea
end
end L3
namespace L3
open PySem L2
namespace HQ
theorem entry_sift : entryFor table "_heapq.heapify.sift" = some Builtin.«_heapq.heapify.sift» := entryFor_of_fast (by kernel_rfl)
theorem plain_sift : plainId "_heapq.heapify.sift" = true := by decide +kernel
theorem entry_push : entryFor table "_heapq.heappush" = some Builtin.«_heapq.heappush» := entryFor_of_fast (by kernel_rfl)
theorem plain_push : plainId "_heapq.heappush" = true := by decide +kernel
theorem kind_push : builtinKind "_heapq.heappush" = none := by decide +kernel
theorem entry_pop : entryFor table "_heapq.heappop" = some Builtin.«_heapq.heappop» := entryFor_of_fast (by kernel_rfl)
theorem plain_pop : plainId "_heapq.heappop" = true := by decide +kernel
theorem kind_pop : builtinKind "_heapq.heappop" = none := by decide +kernel
theorem entry_ify : entryFor table "_heapq.heapify" = some Builtin.«_heapq.heapify» := entryFor_of_fast (by kernel_rfl)
theorem plain_ify : plainId "_heapq.heapify" = true := by decide +kernel
theorem kind_ify : builtinKind "_heapq.heapify" = none := by decide +kernel
theorem args_push (a b : Value) : argsOk "_heapq.heappush" ⟨[a, b], []⟩ := by unfold argsOk; kernel_rfl
theorem args_pop (a : Value) : argsOk "_heapq.heappop" ⟨[a], []⟩ := by unfold argsOk; kernel_rfl
theorem args_ify (a : Value) : argsOk "_heapq.heapify" ⟨[a], []⟩ := by unfold argsOk; kernel_rfl
theorem sub_list : isSubtype (.type "list") (.type "list") = pure true := by rw [isSubtype_type]; kernel_rfl
end HQ
/-- a value of a heap with what it stands for -/
abbrev VD := V × D
def leVD (p q : VD) : Prop := PySem.W.dataLt q.2.py p.2.py = false
theorem leVD_tr : ∀ a b c, leVD a b → leVD b c → leVD a c := fun a b c h1 h2 => by
  unfold leVD PySem.W.dataLt at *
  cases e : PyProof.Rows.lexLt PyProof.Rows.itemOrd (PySem.W.keyToks c.2.py) (PySem.W.keyToks a.2.py) with
  | false => rfl
  | true =>
    rcases PyProof.Rows.lex_negTrans _ (PySem.W.keyToks b.2.py) _ e with h | h
    · rw [h2] at h
      cases h
    · rw [h1] at h
      cases h
theorem leVD_rf : ∀ a, leVD a a := fun a => PyProof.Rows.lex_irrefl _
theorem leVD_lt {a b : VD} (h : PySem.W.dataLt a.2.py b.2.py = true) : leVD a b := by
  unfold leVD
  cases e : PySem.W.dataLt b.2.py a.2.py with
  | false => rfl
  | true =>
    have z := PyProof.Rows.lex_trans _ _ _ h e
    rw [PyProof.Rows.lex_irrefl] at z
    cases z
/-- the entries of a heap -/
structure Hq (K : PySem.W.Frag) (H0 H : Hp) (a : Addr) (n : Nat) (ps0 : List VD) : Prop where
  same : Same H0 H
  free : H0 a = none
  isl : ∃ vs, H a = some (.lst vs)
  rep : ∀ p ∈ ps0, Rep K H0 p.1 p.2
  fits : ∀ p ∈ ps0, fit n p.2
  non : ∀ p ∈ ps0, p.2.py ≠ .none
  n60 : n ≤ 60
  alk : ∀ p ∈ ps0, ∀ q ∈ ps0, PySem.W.alike p.2.py q.2.py = true
  len : ps0.length ≤ 2500
abbrev hpL (H : Hp) (a : Addr) (ps : List VD) : Hp := upd H a (.lst (ps.map (·.1)))
section
variable {X : Cx} {pins : List (Addr × Obj)} {σ : L2.St} {H0 H : Hp} {a : Addr} {n : Nat} {ps0 ps : List VD} {s : Shared} {A1 : Around} {Rs : Result → Shared → Prop}
theorem Hq.lt (h : Hq X.K H0 H a n ps0) {p q : VD} {u v : Value} {A : Around} (I : Inv X pins σ (hpL H a ps) s) (hp : p ∈ ps0) (hq : q ∈ ps0) (rp : RelV p.1 u) (rq : RelV q.1 v) (hu : A.units + 60 < cLine) : PySem.SeqAt.RcLt A s u v (PySem.W.dataLt p.2.py q.2.py) := by
  have sm : Same H0 (hpL H a ps) := fun b c e => by
    have : b ≠ a := fun z => by rw [z, h.free] at e; cases e
    show upd H a _ b = _
    rw [upd_ne this]
    exact h.same _ _ e
  obtain ⟨as, k1⟩ := Dp.reads I _ _ _ (Rep.dp n _ _ (h.fits p hp) ((h.rep p hp).up sm)) rp
  obtain ⟨bs, k2⟩ := Dp.reads I _ _ _ (Rep.dp n _ _ (h.fits q hq) ((h.rep q hq).up sm)) rq
  have l1 := fit_lay n _ (h.fits p hp)
  have := h.n60
  exact PySem.W.rcLt_alike _ _ A s _ _ as bs k1 k2 (h.alk p hp q hq) (h.non p hp) (by omega)
theorem sw_get {ps : List VD} {i j k : Nat} {p q : VD} (hi : ps[i]? = some p) (hj : ps[j]? = some q) : ((ps.set i q).set j p)[k]? = if k = j then some p else if k = i then some q else ps[k]? := by
  have li := (List.getElem?_eq_some_iff.mp hi).1
  have lj := (List.getElem?_eq_some_iff.mp hj).1
  rw [List.getElem?_set, List.length_set, List.getElem?_set]
  by_cases e : k = j
  · rw [if_pos e.symm, if_pos e, if_pos lj]
  · rw [if_neg (fun z => e z.symm), if_neg e]
    by_cases e2 : k = i
    · rw [if_pos e2.symm, if_pos e2, if_pos li]
    · rw [if_neg (fun z => e2 z.symm), if_neg e2]
theorem sw_perm {ps : List VD} {i j : Nat} {p q : VD} (hi : ps[i]? = some p) (hj : ps[j]? = some q) : ((ps.set i q).set j p).Perm ps := by
  obtain ⟨li, ei⟩ := List.getElem?_eq_some_iff.mp hi
  obtain ⟨lj, ej⟩ := List.getElem?_eq_some_iff.mp hj
  rw [← ei, ← ej]
  exact List.set_set_perm li lj
theorem Hq.swap {i j : Nat} {p q : VD} {u v : Value} {its : List Value} {c : Nat} (I : Inv X pins σ (hpL H a ps) s) (e : s.heap.get? a = some { cls := .type "list", data := .seq its.toArray c }) (r : Vals (ps.map (·.1)) its)
    (hz : ps.length ≤ 2500) (hu : RelV p.1 u) (hv : RelV q.1 v) :
    Inv X pins σ (hpL H a ((ps.set i q).set j p)) { s with heap := s.heap.update a (Obj.mapSeq fun xs => (xs.setIfInBounds i v).setIfInBounds j u) } := by
  have k := I.lset (t' := s.toks) (f := fun xs => (xs.setIfInBounds i v).setIfInBounds j u) (its' := (its.set i v).set j u) (ys := ((ps.set i q).set j p).map (·.1)) upd_same e (by simp) (by
    rw [List.map_set, List.map_set]
    exact Vals.set hu j (Vals.set hv i r)) (by rw [List.length_map, List.length_set, List.length_set]; exact Nat.le_trans hz (by decide))
  rw [upd_upd] at k
  exact k
theorem get_val {its : List Value} {i : Nat} (r : Vals (ps.map (·.1)) its) (hi : i < ps.length) : ∃ p u, ps[i]? = some p ∧ p ∈ ps ∧ its.toArray[i]? = some u ∧ RelV p.1 u := by
  obtain ⟨u, hu, ru⟩ := r.get (i := i) (x := ps[i].1) (by rw [List.getElem?_map, List.getElem?_eq_getElem hi]; rfl)
  exact ⟨ps[i], u, List.getElem?_eq_getElem hi, List.getElem_mem hi, by simpa using hu, ru⟩
theorem sift_up (h : Hq X.K H0 H a n ps0) (hA : A1.units + 61 < cLine) {top : Nat} {res : Value} {after : Int}
    (done : ∀ ps' s', Inv X pins σ (hpL H a ps') s' → ps'.Perm ps0 → HF leVD (fun k => ps'[k]?) top → (after < 0 → Rs (.ok (.ret res)) s') ∧ (¬ after < 0 → codeAny (model X.prog X.w) A1 (.builtin "_heapq.heapify.sift" ⟨[.ref a, .bool false, .bool true, rawInt after.toNat, rawInt after.toNat, res, rawInt (after - 1)], []⟩) Rs s')) :
    ∀ (pos : Nat) (ps : List VD) (s : Shared), Inv X pins σ (hpL H a ps) s → ps.Perm ps0 → pos < ps.length → Desc top pos → UF leVD (fun k => ps[k]?) top pos →
      codeAny (model X.prog X.w) A1 (.builtin "_heapq.heapify.sift" ⟨[.ref a, .bool false, .bool false, rawInt pos, rawInt top, res, rawInt after], []⟩) Rs s := fun pos => by
  induction pos using Nat.strongRecOn with
  | _ pos ih =>
    intro ps s I pm hl D U
    obtain ⟨z, its, c, r, l, e⟩ := I.lstM upd_same
    refine codeAny_builtin HQ.entry_sift ?_
    rw [Around.under_plainId HQ.plain_sift _]
    refine wpAny_bind (wpAny_bind (wpAny_seqItems e rfl (wpAny_pure ?_)))
    simp only [↓reduceIte, Int.toNat_natCast, Bool.false_eq_true]
    by_cases hp : top < pos
    · rw [if_pos hp]
      have hpl := par_lt (i := pos) (by omega)
      have epar : par pos = (pos - 1) / 2 := rfl
      rw [← epar]
      obtain ⟨x, u, hx, mx, hu, ru⟩ := get_val r hl
      obtain ⟨p, v, hp', mp, hv, rv⟩ := get_val r (Nat.lt_trans hpl hl)
      refine wpAny_bind ?_
      show wpAny _ _ (match its.toArray[pos]? with | some v => pure v | none => _) _ _ _
      rw [hu]
      refine wpAny_pure ?_
      refine wpAny_bind ?_
      show wpAny _ _ (match its.toArray[par pos]? with | some v => pure v | none => _) _ _ _
      rw [hv]
      refine wpAny_pure ?_
      refine wpAny_bind (wpAny_bind (wpAny_holding (wpAny_bind (h.lt I (pm.mem_iff.mp mx) (pm.mem_iff.mp mp) ru rv hA _ _ _ _ ?_))))
      refine wpAny_truthy_bool ?_
      refine wpAny_bind (wpAny_bind (wpAny_seqItems e rfl (wpAny_pure ?_)))
      simp only [bne_self_eq_false, ↓reduceIte, Bool.false_eq_true]
      refine wpAny_pure ?_
      cases hb : PySem.W.dataLt x.2.py p.2.py with
      | true =>
        rw [if_pos rfl]
        refine wpAny_bind (wpAny_bind (wpAny_bind (wpAny_seqItems e rfl (wpAny_pure ?_))))
        refine wpAny_bind ?_
        show wpAny _ _ (match its.toArray[par pos]? with | some v => pure v | none => _) _ _ _
        rw [hv]
        refine wpAny_pure ?_
        refine wpAny_bind ?_
        show wpAny _ _ (match its.toArray[pos]? with | some v => pure v | none => _) _ _ _
        rw [hu]
        refine wpAny_pure ?_
        have sz : its.toArray.size ≤ 2500 := by
          rw [List.size_toArray, ← l, List.length_map, pm.length_eq]
          exact h.len
        refine wpAny_updateSeq e rfl ?_ (Nat.le_trans sz (by decide)) (by rw [Array.size_setIfInBounds, Array.size_setIfInBounds]; exact Nat.le_trans sz (by decide))
        have I2 := Hq.swap (i := par pos) (j := pos) (p := p) (q := x) I e r (by rw [pm.length_eq]; exact h.len) rv ru
        refine wpAny_pure ⟨plainId_quiet HQ.plain_sift _, ih (par pos) hpl _ _ I2 ((sw_perm hp' hx).trans pm) (by rw [List.length_set, List.length_set]; omega) (D.up hp) ?_⟩
        exact up_step leVD_tr hp D U hx hp' (leVD_lt hb) fun k => sw_get hp' hx
      | false =>
        rw [if_neg Bool.false_ne_true]
        obtain ⟨q1, q2⟩ := done ps s I pm (up_end D U (.inr fun x' p' e1 e2 => by
          rw [hx] at e1
          rw [hp'] at e2
          cases e1
          cases e2
          exact hb))
        by_cases ha : after < 0
        · rw [if_pos ha]
          exact wpAny_pure (q1 ha)
        · rw [if_neg ha]
          exact wpAny_pure ⟨plainId_quiet HQ.plain_sift _, q2 ha⟩
    · rw [if_neg hp]
      obtain ⟨q1, q2⟩ := done ps s I pm (up_end D U (.inl (by have := D.ge; omega)))
      by_cases ha : after < 0
      · rw [if_pos ha]
        exact wpAny_pure (q1 ha)
      · rw [if_neg ha]
        exact wpAny_pure ⟨plainId_quiet HQ.plain_sift _, q2 ha⟩
theorem sift_down (h : Hq X.K H0 H a n ps0) (hA : A1.units + 61 < cLine) {top : Nat} {res : Value} {after : Int}
    (done : ∀ ps' s', Inv X pins σ (hpL H a ps') s' → ps'.Perm ps0 → HF leVD (fun k => ps'[k]?) top → (after < 0 → Rs (.ok (.ret res)) s') ∧ (¬ after < 0 → codeAny (model X.prog X.w) A1 (.builtin "_heapq.heapify.sift" ⟨[.ref a, .bool false, .bool true, rawInt after.toNat, rawInt after.toNat, res, rawInt (after - 1)], []⟩) Rs s')) :
    ∀ (k pos : Nat) (ps : List VD) (s : Shared), ps.length - pos = k → Inv X pins σ (hpL H a ps) s → ps.Perm ps0 → pos < ps.length → Desc top pos → DF leVD (fun k => ps[k]?) top pos →
      codeAny (model X.prog X.w) A1 (.builtin "_heapq.heapify.sift" ⟨[.ref a, .bool false, .bool true, rawInt pos, rawInt top, res, rawInt after], []⟩) Rs s := fun k => by
  induction k using Nat.strongRecOn with
  | _ k ih =>
    intro pos ps s ek I pm hl D U
    obtain ⟨z, its, c, r, l, e⟩ := I.lstM upd_same
    refine codeAny_builtin HQ.entry_sift ?_
    rw [Around.under_plainId HQ.plain_sift _]
    refine wpAny_bind (wpAny_bind (wpAny_seqItems e rfl (wpAny_pure ?_)))
    simp only [↓reduceIte, Int.toNat_natCast, Bool.false_eq_true]
    have sl : its.toArray.size = ps.length := by rw [List.size_toArray, ← l, List.length_map]
    have l25 : ps.length ≤ 2500 := by rw [pm.length_eq]; exact h.len
    have sz : its.toArray.size ≤ 2500 := by rw [sl]; exact l25
    by_cases hp : pos < its.toArray.size / 2
    · rw [if_pos hp]
      have hleft : 2 * pos + 1 < ps.length := by rw [sl] at hp; omega
      obtain ⟨x, u, hx, mx, hu, ru⟩ := get_val r hl
      obtain ⟨y, v, hy, my, hv, rv⟩ := get_val r hleft
      have kid : ∀ (child : Nat) (q : VD) (w : Value), par child = pos → 0 < child → ps[child]? = some q → its.toArray[child]? = some w → RelV q.1 w → (∀ i t, 0 < i → par i = pos → i ≠ child → ps[i]? = some t → leVD q t) →
          codeAny (model X.prog X.w) A1 (.builtin "_heapq.heapify.sift" ⟨[.ref a, .bool false, .bool true, rawInt child, rawInt top, res, rawInt after], []⟩) Rs { s with heap := s.heap.update a (Obj.mapSeq fun xs => (xs.setIfInBounds child u).setIfInBounds pos w) } := fun child q w ec c0 hq hw rw' sib => by
        have lc := (List.getElem?_eq_some_iff.mp hq).1
        have := par_lt c0
        have I2 := Hq.swap (i := child) (j := pos) (p := q) (q := x) I e r l25 rw' ru
        refine ih (ps.length - child) (by omega) child _ _ (by rw [List.length_set, List.length_set]) I2 ((sw_perm hq hx).trans pm) (by rw [List.length_set, List.length_set]; exact lc) (.kid c0 (by rw [ec]; exact D)) ?_
        exact down_step D U c0 ec hq hx sib fun k => sw_get hq hx
      have pl : par (2 * pos + 1) = pos := by unfold par; omega
      have pr : par (2 * pos + 1 + 1) = pos := by unfold par; omega
      by_cases h2 : 2 * pos + 1 + 1 < its.toArray.size
      · rw [if_pos h2]
        obtain ⟨g, m, hg, mg, hm, rm⟩ := get_val r (show 2 * pos + 1 + 1 < ps.length by rw [← sl]; exact h2)
        refine wpAny_bind ?_
        show wpAny _ _ (match its.toArray[2 * pos + 1]? with | some v => pure v | none => _) _ _ _
        rw [hv]
        refine wpAny_pure ?_
        refine wpAny_bind ?_
        show wpAny _ _ (match its.toArray[2 * pos + 1 + 1]? with | some v => pure v | none => _) _ _ _
        rw [hm]
        refine wpAny_pure ?_
        refine wpAny_bind (wpAny_bind (wpAny_holding (wpAny_bind (h.lt I (pm.mem_iff.mp my) (pm.mem_iff.mp mg) rv rm hA _ _ _ _ ?_))))
        refine wpAny_truthy_bool ?_
        refine wpAny_bind (wpAny_bind (wpAny_seqItems e rfl (wpAny_pure ?_)))
        simp only [bne_self_eq_false, ↓reduceIte, Bool.false_eq_true]
        refine wpAny_pure ?_
        cases hb : PySem.W.dataLt y.2.py g.2.py with
        | true =>
          rw [if_neg (by decide)]
          refine wpAny_bind (wpAny_bind (wpAny_bind (wpAny_seqItems e rfl (wpAny_pure ?_))))
          refine wpAny_bind ?_
          show wpAny _ _ (match its.toArray[2 * pos + 1]? with | some v => pure v | none => _) _ _ _
          rw [hv]
          refine wpAny_pure ?_
          refine wpAny_bind ?_
          show wpAny _ _ (match its.toArray[pos]? with | some v => pure v | none => _) _ _ _
          rw [hu]
          refine wpAny_pure ?_
          refine wpAny_updateSeq e rfl ?_ (Nat.le_trans sz (by decide)) (by rw [Array.size_setIfInBounds, Array.size_setIfInBounds]; exact Nat.le_trans sz (by decide))
          exact wpAny_pure ⟨plainId_quiet HQ.plain_sift _, kid (2 * pos + 1) y v pl (Nat.succ_pos _) hy hv rv fun i t i0 ei ne hi => by
            obtain rfl : i = 2 * pos + 1 + 1 := by unfold par at ei; omega
            rw [hg] at hi
            cases hi
            exact leVD_lt hb⟩
        | false =>
          rw [if_pos (by decide)]
          refine wpAny_bind (wpAny_bind (wpAny_bind (wpAny_seqItems e rfl (wpAny_pure ?_))))
          refine wpAny_bind ?_
          show wpAny _ _ (match its.toArray[2 * pos + 1 + 1]? with | some v => pure v | none => _) _ _ _
          rw [hm]
          refine wpAny_pure ?_
          refine wpAny_bind ?_
          show wpAny _ _ (match its.toArray[pos]? with | some v => pure v | none => _) _ _ _
          rw [hu]
          refine wpAny_pure ?_
          refine wpAny_updateSeq e rfl ?_ (Nat.le_trans sz (by decide)) (by rw [Array.size_setIfInBounds, Array.size_setIfInBounds]; exact Nat.le_trans sz (by decide))
          exact wpAny_pure ⟨plainId_quiet HQ.plain_sift _, kid (2 * pos + 1 + 1) g m pr (Nat.succ_pos _) hg hm rm fun i t i0 ei ne hi => by
            obtain rfl : i = 2 * pos + 1 := by unfold par at ei; omega
            rw [hy] at hi
            cases hi
            exact hb⟩
      · rw [if_neg h2]
        refine wpAny_bind (wpAny_bind (wpAny_bind (wpAny_seqItems e rfl (wpAny_pure ?_))))
        refine wpAny_bind ?_
        show wpAny _ _ (match its.toArray[2 * pos + 1]? with | some v => pure v | none => _) _ _ _
        rw [hv]
        refine wpAny_pure ?_
        refine wpAny_bind ?_
        show wpAny _ _ (match its.toArray[pos]? with | some v => pure v | none => _) _ _ _
        rw [hu]
        refine wpAny_pure ?_
        refine wpAny_updateSeq e rfl ?_ (Nat.le_trans sz (by decide)) (by rw [Array.size_setIfInBounds, Array.size_setIfInBounds]; exact Nat.le_trans sz (by decide))
        exact wpAny_pure ⟨plainId_quiet HQ.plain_sift _, kid (2 * pos + 1) y v pl (Nat.succ_pos _) hy hv rv fun i t i0 ei ne hi => by
          have li := (List.getElem?_eq_some_iff.mp hi).1
          rw [sl] at h2
          unfold par at ei
          omega⟩
    · rw [if_neg hp]
      refine wpAny_pure ⟨plainId_quiet HQ.plain_sift _, sift_up h hA done pos ps s I pm hl D (down_end U fun i i0 ei => ?_)⟩
      show ps[i]? = none
      rw [List.getElem?_eq_none_iff]
      rw [sl] at hp
      unfold par at ei
      omega
theorem sift_all (h : Hq X.K H0 H a n ps0) (hA : A1.units + 61 < cLine) {res : Value}
    (done : ∀ ps' s', Inv X pins σ (hpL H a ps') s' → ps'.Perm ps0 → HF leVD (fun k => ps'[k]?) 0 → Rs (.ok (.ret res)) s') :
    ∀ (top : Nat) (ps : List VD) (s : Shared), Inv X pins σ (hpL H a ps) s → ps.Perm ps0 → top < ps.length → HF leVD (fun k => ps[k]?) (top + 1) →
      codeAny (model X.prog X.w) A1 (.builtin "_heapq.heapify.sift" ⟨[.ref a, .bool false, .bool true, rawInt top, rawInt top, res, rawInt ((top : Int) - 1)], []⟩) Rs s
  | 0, ps, s, I, pm, hl, U => sift_down h hA (fun ps' s' I' pm' U' => ⟨fun _ => done ps' s' I' pm' U', fun z => absurd (by decide) z⟩) _ 0 ps s rfl I pm hl .top (down_start U)
  | top + 1, ps, s, I, pm, hl, U => sift_down h hA (fun ps' s' I' pm' U' => ⟨fun z => by omega, fun _ => by
      have e : ((top + 1 : Nat) : Int) - 1 = (top : Int) := by omega
      rw [e, Int.toNat_natCast]
      exact sift_all h hA done top ps' s' I' pm' (by rw [pm'.length_eq, ← pm.length_eq]; omega) U'⟩) _ (top + 1) ps s rfl I pm hl .top (down_start U)
theorem call_run {prog : Program} {w : World} {A : Around} {E : Value → Shared → Prop} {s : Shared} {id : String} {b : Builtin} {args : List Value} {Q : Value → Shared → Prop} (hk : builtinKind id = none) (hp : plainId id = true)
    (hb : entryFor table id = some b) (ha : argsOk id ⟨args, []⟩)
    (h : ∀ R : Result → Shared → Prop, (∀ v s', Q v s' → R (.ok (.ret v)) s') → wpAny (model prog w) A.in1 (b ⟨args, []⟩) (fun fin s' => match fin with | .done f => R (.ok f) s' | .again c' => c'.quiet = true ∧ codeAny (model prog w) A c' R s') (fun e s' => R (.error e) s') s) : wpAny (model prog w) A (call (.builtin id) args) Q E s := by
  refine wpAny_call (codeAny_call_builtin hp hb ?_)
  have hfin := h (fun r s' => match r with | .ok (.ret v) => Q v s' | .ok _ => False | .error e => E e s') fun v s' q => q
  simp only [checkBuiltinCall, hk]
  cases hsig : Manifest.signature? id with
  | none => exact wpAny_pure hfin
  | some sig =>
    simp only [argsOk, hsig] at ha
    have h2 : Bind.checkArgs id sig ⟨args, []⟩ = pure () := ha
    show wpAny _ A.in1 (Bind.checkArgs id sig ⟨args, []⟩) _ _ s
    rw [h2]
    exact wpAny_pure hfin
end
theorem upd_self {H : Hp} {a : Addr} {o : HO} (h : H a = some o) : upd H a o = H := by
  funext b
  by_cases e : b = a
  · rw [e, upd_same, h]
  · rw [upd_ne e]
def rIfy (K : PySem.W.Frag) : List V → Hp → VK → Prop := fun xs H Q => ∃ (a : Addr) (ps : List VD) (n : Nat) (H0 : Hp), xs = [.ref a] ∧ Hq K H0 H a n ps ∧ H a = some (.lst (ps.map (·.1))) ∧ ∀ ps', ps'.Perm ps → HF leVD (fun k => ps'[k]?) 0 → Q .non (hpL H a ps')
theorem call_ify {X : Cx} {k : Nat} (hr : Room k X.A) : CallR X (.builtin "_heapq.heapify") (rIfy X.K) := by
  intro pins s σ H xs us Q I r h
  obtain ⟨a, ps, n, H0, rfl, hq, hl, q⟩ := h
  obtain rfl := Vals.ref1 r
  have hu := hr.units0
  refine call_run HQ.kind_ify HQ.plain_ify HQ.entry_ify (HQ.args_ify _) fun R hR => ?_
  obtain ⟨z, its, c, r, l, e⟩ := I.lstM hl
  have hA : X.A.units + 61 < cLine := by have := hr.un; omega
  refine wpAny_bind (wpAny_bind (wpAny_bind (wpAny_pure (wpAny_pure ?_))))
  refine wpAny_bind (wpAny_bind (wpAny_isInstance ⟨_, e, rfl⟩ HQ.sub_list ?_))
  simp only [↓reduceIte]
  refine wpAny_pure (wpAny_pure ?_)
  refine wpAny_bind (wpAny_bind (wpAny_seqItems e rfl (wpAny_pure ?_)))
  have sl : its.toArray.size = ps.length := by rw [List.size_toArray, ← l, List.length_map]
  have l25 := hq.len
  rw [sl, if_neg (by omega)]
  by_cases h2 : ps.length < 2
  · rw [if_pos h2]
    refine wpAny_pure (hR _ _ ⟨.non, _, ?_, rfl, q ps (List.Perm.refl _) fun i x y i0 _ e1 _ => ?_⟩)
    · rw [show hpL H a ps = H from upd_self hl]
      exact I
    · have := (List.getElem?_eq_some_iff.mp e1).1
      omega
  · rw [if_neg h2]
    have e1 : ((ps.length / 2 : Nat) : Int) - 2 = ((ps.length / 2 - 1 : Nat) : Int) - 1 := by omega
    rw [e1]
    refine wpAny_pure ⟨plainId_quiet HQ.plain_sift _, ?_⟩
    refine sift_all hq hA (fun ps' s' I' pm' U' => hR _ _ ⟨.non, _, I', rfl, q ps' pm' U'⟩) (ps.length / 2 - 1) ps s ?_ (List.Perm.refl _) (by omega) ?_
    · rw [show hpL H a ps = H from upd_self hl]
      exact I
    · rw [show ps.length / 2 - 1 + 1 = ps.length / 2 from by omega]
      exact hf_none fun i hi => List.getElem?_eq_none hi
def rPush (K : PySem.W.Frag) : List V → Hp → VK → Prop := fun xs H Q => ∃ (a : Addr) (p : VD) (ps : List VD) (n : Nat) (H0 : Hp), xs = [.ref a, p.1] ∧ Hq K H0 H a n (ps ++ [p]) ∧ H a = some (.lst (ps.map (·.1))) ∧ HF leVD (fun k => ps[k]?) 0 ∧ ∀ ps', ps'.Perm (ps ++ [p]) → HF leVD (fun k => ps'[k]?) 0 → Q .non (hpL H a ps')
theorem call_push {X : Cx} {k : Nat} (hr : Room k X.A) : CallR X (.builtin "_heapq.heappush") (rPush X.K) := by
  intro pins s σ H xs us Q I r h
  obtain ⟨a, p, ps, n, H0, rfl, hq, hl, hf, q⟩ := h
  obtain ⟨u0, u, rfl, r0, ru⟩ := Vals.two r
  cases r0
  refine call_run HQ.kind_push HQ.plain_push HQ.entry_push (HQ.args_push _ _) fun R hR => ?_
  obtain ⟨z, its, c, r, l, e⟩ := I.lstM hl
  have hA : X.A.units + 61 < cLine := by have := hr.un; omega
  have l25 := hq.len
  rw [List.length_append, List.length_singleton] at l25
  have sl : its.toArray.size = ps.length := by rw [List.size_toArray, ← l, List.length_map]
  refine wpAny_bind (wpAny_bind (wpAny_pure ?_))
  dsimp only
  refine wpAny_bind (wpAny_of_eq (show _ = (pure () : Sem Unit) from rfl) ?_)
  refine wpAny_bind (wpAny_bind (wpAny_isInstance ⟨_, e, rfl⟩ HQ.sub_list ?_))
  simp only [↓reduceIte]
  refine wpAny_pure (wpAny_pure ?_)
  refine wpAny_bind (wpAny_updateSeq e rfl ?_ (by rw [sl]; exact Nat.le_trans (by omega : ps.length ≤ 2500) (by decide)) (by rw [Array.size_push, sl]; exact Nat.le_trans (by omega : ps.length + 1 ≤ 2501) (by decide)))
  have I2 := I.lset (t' := s.toks) (f := fun xs => xs.push u) (its' := its ++ [u]) (ys := (ps ++ [p]).map (·.1)) hl e (by simp) (by
    rw [List.map_append]
    exact r.append (.cons ru .nil)) (by rw [List.length_map, List.length_append, List.length_singleton]; exact Nat.le_trans (by omega : ps.length + 1 ≤ 2501) (by decide))
  have I2 : Inv X pins σ (hpL H a (ps ++ [p])) _ := I2
  obtain ⟨z2, its2, c2, r2, l2, e2⟩ := I2.lstM upd_same
  refine wpAny_bind (wpAny_bind (wpAny_seqItems e2 rfl (wpAny_pure ?_)))
  have sl2 : its2.toArray.size - 1 = ps.length := by
    rw [List.size_toArray, ← l2, List.length_map, List.length_append, List.length_singleton]
    omega
  rw [sl2]
  refine wpAny_pure ⟨plainId_quiet HQ.plain_sift _, ?_⟩
  refine sift_up hq hA (fun ps' s' I' pm' U' => ⟨fun _ => hR _ _ ⟨.non, _, I', rfl, q ps' pm' U'⟩, fun z => absurd (by decide) z⟩) ps.length (ps ++ [p]) _ I2 (List.Perm.refl _) (by rw [List.length_append, List.length_singleton]; omega) (Desc.zero _) ⟨?_, ?_⟩
  · intro i x y i0 ine _ e1 e2
    have li := (List.getElem?_eq_some_iff.mp e1).1
    rw [List.length_append, List.length_singleton] at li
    have := par_lt i0
    dsimp only at e1 e2
    rw [List.getElem?_append_left (by omega)] at e1 e2
    exact hf i x y i0 (Nat.zero_le _) e1 e2
  · intro i x y i0 ei _ e1 _
    have li := (List.getElem?_eq_some_iff.mp e1).1
    rw [List.length_append, List.length_singleton] at li
    have := par_lt i0
    omega
theorem Hq.sub {K : PySem.W.Frag} {H0 H : Hp} {a : Addr} {n : Nat} {ps qs : List VD} (h : Hq K H0 H a n ps) (hs : ∀ p ∈ qs, p ∈ ps) (hl : qs.length ≤ ps.length) : Hq K H0 H a n qs :=
  ⟨h.same, h.free, h.isl, fun p hp => h.rep p (hs p hp), fun p hp => h.fits p (hs p hp), fun p hp => h.non p (hs p hp), h.n60, fun p hp q hq => h.alk p (hs p hp) q (hs q hq), Nat.le_trans hl h.len⟩
def rHPop (K : PySem.W.Frag) : List V → Hp → VK → Prop := fun xs H Q => ∃ (a : Addr) (x : VD) (ps : List VD) (n : Nat) (H0 : Hp), xs = [.ref a] ∧ Hq K H0 H a n (x :: ps) ∧ H a = some (.lst ((x :: ps).map (·.1))) ∧ HF leVD (fun k => (x :: ps)[k]?) 0 ∧ ∀ ps', ps'.Perm ps → HF leVD (fun k => ps'[k]?) 0 → Q x.1 (hpL H a ps')
theorem call_hpop {X : Cx} {k : Nat} (hr : Room k X.A) : CallR X (.builtin "_heapq.heappop") (rHPop X.K) := by
  intro pins s σ H xs us Q I r h
  obtain ⟨a, x, ps, n, H0, rfl, hq, hl, hf, q⟩ := h
  obtain rfl := Vals.ref1 r
  refine call_run HQ.kind_pop HQ.plain_pop HQ.entry_pop (HQ.args_pop _) fun R hR => ?_
  obtain ⟨z, its, c, r, l, e⟩ := I.lstM hl
  have hA : X.A.units + 61 < cLine := by have := hr.un; omega
  have l25 := hq.len
  rw [List.length_cons] at l25
  have sl : its.toArray.size = ps.length + 1 := by rw [List.size_toArray, ← l, List.length_map, List.length_cons]
  have sl' : its.length = ps.length + 1 := by rw [← l, List.length_map, List.length_cons]
  refine wpAny_bind (wpAny_bind (wpAny_bind (wpAny_pure (wpAny_pure ?_))))
  refine wpAny_bind (wpAny_bind (wpAny_isInstance ⟨_, e, rfl⟩ HQ.sub_list ?_))
  simp only [↓reduceIte]
  refine wpAny_pure (wpAny_pure ?_)
  refine wpAny_bind (wpAny_bind (wpAny_seqItems e rfl (wpAny_pure ?_)))
  rcases List.eq_nil_or_concat ps with rfl | ⟨mid, y, rfl⟩
  · obtain ⟨u, rfl, ru⟩ := Vals.one r
    have eb : (#[u] : Array Value).back? = some u := rfl
    have eb : [u].toArray.back? = some u := rfl
    rw [eb]
    dsimp only
    refine wpAny_bind (wpAny_updateSeq e rfl ?_ (show 1 ≤ sizeLine by decide) (show 0 ≤ sizeLine + 1 by decide))
    rw [if_pos (show ((#[u] : Array Value).size == 1) = true from rfl)]
    have I2 := I.lset (t' := s.toks) (f := fun xs => xs.pop) (its' := []) (ys := []) hl e rfl .nil (Nat.zero_le _)
    exact wpAny_pure (hR _ _ ⟨x.1, _, I2, ru, q [] (List.Perm.refl _) fun i x y i0 _ e1 _ => by cases e1⟩)
  · rw [List.concat_eq_append] at *
    have lm : (mid ++ [y]).length = mid.length + 1 := by rw [List.length_append, List.length_singleton]
    rw [lm] at sl sl' l25
    obtain ⟨w, hw, rw'⟩ := r.get (i := mid.length + 1) (x := y.1) (by
      rw [List.map_cons, List.map_append, List.getElem?_cons_succ, List.getElem?_append_right (by rw [List.length_map]; exact Nat.le_refl _), List.length_map, Nat.sub_self]
      rfl)
    obtain ⟨u, hu, ru⟩ := r.get (i := 0) (x := x.1) rfl
    have eb : its.toArray.back? = some w := by
      rw [List.back?_toArray, List.getLast?_eq_getElem?, sl']
      exact hw
    rw [eb]
    dsimp only
    refine wpAny_bind (wpAny_updateSeq e rfl ?_ (by rw [sl]; exact Nat.le_trans (by omega : mid.length + 1 + 1 ≤ 2500) (by decide)) (by rw [Array.size_pop, sl]; exact Nat.le_trans (by omega : mid.length + 1 + 1 - 1 ≤ 2500) (by decide)))
    have I2 := I.lset (t' := s.toks) (f := fun xs => xs.pop) (its' := its.dropLast) (ys := ((x :: mid).map (·.1))) hl e (by simp) (by
      have k := r.dropLast
      rw [show ((x :: (mid ++ [y])).map (·.1)).dropLast = (x :: mid).map (·.1) from by rw [← List.cons_append, List.map_append]; exact List.dropLast_concat] at k
      exact k) (by rw [List.length_map, List.length_cons]; exact Nat.le_trans (by omega : mid.length + 1 ≤ 2500) (by decide))
    have I2 : Inv X pins σ (hpL H a (x :: mid)) _ := I2
    obtain ⟨z2, its2, c2, r2, l2, e2⟩ := I2.lstM upd_same
    rw [if_neg (by rw [sl]; simp)]
    refine wpAny_bind ?_
    show wpAny _ _ (match its.toArray[0]? with | some v => pure v | none => _) _ _ _
    rw [show its.toArray[0]? = some u by simpa using hu]
    refine wpAny_pure ?_
    have sl2 : its2.toArray.size = mid.length + 1 := by rw [List.size_toArray, ← l2, List.length_map, List.length_cons]
    refine wpAny_bind (wpAny_updateSeq e2 rfl ?_ (by rw [sl2]; exact Nat.le_trans (by omega : mid.length + 1 ≤ 2500) (by decide)) (by rw [Array.size_setIfInBounds, sl2]; exact Nat.le_trans (by omega : mid.length + 1 ≤ 2500) (by decide)))
    have I3 := I2.lset (t' := s.toks) (f := fun xs => xs.setIfInBounds 0 w) (its' := its2.set 0 w) (ys := y.1 :: mid.map (·.1)) upd_same e2 (by simp) (show Vals (y.1 :: mid.map (·.1)) _ from Vals.set rw' 0 r2) (by rw [List.length_cons, List.length_map]; exact Nat.le_trans (by omega : mid.length + 1 ≤ 2500) (by decide))
    rw [upd_upd] at I3
    have I3 : Inv X pins σ (hpL H a (y :: mid)) _ := I3
    refine wpAny_pure ⟨plainId_quiet HQ.plain_sift _, ?_⟩
    have h3 : Hq X.K H0 H a n (y :: mid) := hq.sub (fun p hp => by
      rcases List.mem_cons.mp hp with rfl | hp
      · exact List.mem_cons_of_mem _ (List.mem_append_right _ List.mem_cons_self)
      · exact List.mem_cons_of_mem _ (List.mem_append_left _ hp)) (by simp)
    refine sift_down h3 hA (fun ps' s' I' pm' U' => ⟨fun _ => hR _ _ ⟨x.1, _, I', ru, q ps' (pm'.trans (List.perm_append_singleton y mid).symm) U'⟩, fun z => absurd (by decide) z⟩) _ 0 (y :: mid) _ rfl I3 (List.Perm.refl _) (Nat.succ_pos _) .top ⟨?_, fun i p q i0 _ t0 => absurd t0 (Nat.lt_irrefl 0)⟩
    intro i p q i0 ine pne _ e1 e2
    have g : ∀ j, j ≠ 0 → j < mid.length + 1 → (y :: mid)[j]? = (x :: (mid ++ [y]))[j]? := fun j h0 hj => by
      cases j with
      | zero => exact absurd rfl h0
      | succ j => rw [List.getElem?_cons_succ, List.getElem?_cons_succ, List.getElem?_append_left (by omega)]
    have li := (List.getElem?_eq_some_iff.mp e1).1
    rw [List.length_cons] at li
    have := par_lt i0
    dsimp only at e1 e2
    rw [g _ ine li] at e1
    rw [g _ pne (by omega)] at e2
    exact hf i p q i0 (Nat.zero_le _) e1 e2
end L3
namespace L3
open PySem L2
def leD (d e : D) : Prop := PySem.W.dataLt e.py d.py = false
/-- entries that can be compared with one another -/
def hpOk (es : List D) : Prop := (∃ n, n ≤ 60 ∧ ∀ d ∈ es, fit n d) ∧ (∀ d ∈ es, d.py ≠ .none) ∧ (∀ d ∈ es, ∀ e ∈ es, PySem.W.alike d.py e.py = true) ∧ es.length ≤ 2500
abbrev isHp (es : List D) : Prop := HF leD (fun k => es[k]?) 0
def fIfy : FC := fun ds M Q => match ds with
  | [.tok a] => ∃ es, M a = some (.lst es) ∧ hpOk es ∧ ∀ es', es'.Perm es → isHp es' → Q .non (setM M a (.lst es'))
  | _ => False
def fPush : FC := fun ds M Q => match ds with
  | [.tok a, d] => ∃ es, M a = some (.lst es) ∧ hpOk (es ++ [d]) ∧ isHp es ∧ ∀ es', es'.Perm (es ++ [d]) → isHp es' → Q .non (setM M a (.lst es'))
  | _ => False
def fHPop : FC := fun ds M Q => match ds with
  | [.tok a] => ∃ x es, M a = some (.lst (x :: es)) ∧ hpOk (x :: es) ∧ isHp (x :: es) ∧ ∀ es', es'.Perm es → isHp es' → Q x (setM M a (.lst es'))
  | _ => False
theorem RepL.zip {K : PySem.W.Frag} {H : Hp} : ∀ {vs : List V} {ds : List D}, RepL K H vs ds → ∃ ps : List VD, ps.map (·.1) = vs ∧ ps.map (·.2) = ds ∧ ∀ p ∈ ps, Rep K H p.1 p.2
  | _, _, .nil => ⟨[], rfl, rfl, fun _ h => nomatch h⟩
  | _, _, .cons (v := v) (d := d) q t => by
    obtain ⟨ps, e1, e2, h⟩ := RepL.zip t
    refine ⟨(v, d) :: ps, by rw [List.map_cons, e1], by rw [List.map_cons, e2], fun p hp => ?_⟩
    rcases List.mem_cons.mp hp with rfl | hp
    · exact q
    · exact h p hp
theorem RepL.ofps {K : PySem.W.Frag} {H : Hp} : ∀ {ps : List VD}, (∀ p ∈ ps, Rep K H p.1 p.2) → RepL K H (ps.map (·.1)) (ps.map (·.2))
  | [], _ => .nil
  | p :: ps, h => .cons (h p List.mem_cons_self) (RepL.ofps fun q hq => h q (List.mem_cons_of_mem _ hq))
theorem hf_up {ps : List VD} (h : HF leVD (fun k => ps[k]?) 0) : isHp (ps.map (·.2)) := fun i x y i0 t0 e1 e2 => by
  dsimp only at e1 e2
  rw [List.getElem?_map] at e1 e2
  cases z1 : ps[i]? with
  | none => rw [z1] at e1; cases e1
  | some p =>
    cases z2 : ps[par i]? with
    | none => rw [z2] at e2; cases e2
    | some q =>
      rw [z1] at e1
      rw [z2] at e2
      cases e1
      cases e2
      exact h i p q i0 t0 z1 z2
theorem hf_dn {ps : List VD} (h : isHp (ps.map (·.2))) : HF leVD (fun k => ps[k]?) 0 := fun i p q i0 t0 e1 e2 => by
  dsimp only at e1 e2
  exact h i p.2 q.2 i0 t0 (by dsimp only; rw [List.getElem?_map, e1]; rfl) (by dsimp only; rw [List.getElem?_map, e2]; rfl)
theorem hq_of {K : PySem.W.Frag} {Z H : Hp} {M : Mp} {a : Addr} {es : List D} {ps : List VD} {vs : List V} (hm : M a = some (.lst es)) (hH : H a = some (.lst vs)) (h : hpOk (ps.map (·.2))) (hr : ∀ p ∈ ps, Rep K (fz Z H M) p.1 p.2) : ∃ n, Hq K (fz Z H M) H a n ps := by
  obtain ⟨⟨n, hn, h1⟩, h2, h3, h4⟩ := h
  have m : ∀ p ∈ ps, p.2 ∈ ps.map (·.2) := fun p hp => List.mem_map_of_mem hp
  exact ⟨n, fz_sub, fz_some hm, ⟨_, hH⟩, hr, fun p hp => h1 _ (m p hp), fun p hp => h2 _ (m p hp), hn, fun p hp q hq => h3 _ (m p hp) _ (m q hq), by rw [List.length_map] at h4; exact h4⟩
theorem sim_ify {K : PySem.W.Frag} : SimC K (rIfy K) fIfy := by
  intro Z xs ds H M Q Q' S r f q
  unfold fIfy at f
  split at f
  · obtain ⟨es, hm, hok, f⟩ := f
    cases r with
    | cons ra rb =>
    cases rb
    cases ra
    obtain ⟨vs, hH, rl⟩ := S.cell _ _ hm
    obtain ⟨ps, rfl, rfl, hr⟩ := rl.zip
    obtain ⟨n, hq⟩ := hq_of hm hH hok hr
    refine ⟨_, ps, n, _, rfl, hq, hH, fun ps' pm hf => ?_⟩
    have g := Go.putL S (.inr ⟨_, hm⟩) (RepL.ofps (K := K) fun p hp => hr p (pm.mem_iff.mp hp))
    exact q _ _ _ _ g .non (f _ (pm.map _) (hf_up hf))
  · exact f.elim
theorem sim_push {K : PySem.W.Frag} : SimC K (rPush K) fPush := by
  intro Z xs ds H M Q Q' S r f q
  unfold fPush at f
  split at f
  · rename_i a d
    obtain ⟨es, hm, hok, hi, f⟩ := f
    cases r with
    | cons ra rb =>
    cases rb with
    | cons rd rb =>
    cases rb
    cases ra
    rename_i v
    obtain ⟨vs, hH, rl⟩ := S.cell _ _ hm
    obtain ⟨ps, rfl, rfl, hr⟩ := rl.zip
    have hr2 : ∀ p ∈ ps ++ [(v, d)], Rep K (fz Z H M) p.1 p.2 := fun p hp => by
      rcases List.mem_append.mp hp with hp | hp
      · exact hr p hp
      · rw [List.mem_singleton.mp hp]
        exact rd
    obtain ⟨n, hq⟩ := hq_of hm hH (ps := ps ++ [(v, d)]) (by rw [List.map_append]; exact hok) hr2
    refine ⟨_, (v, d), ps, n, _, rfl, hq, hH, hf_dn hi, fun ps' pm hf => ?_⟩
    have g := Go.putL S (.inr ⟨_, hm⟩) (RepL.ofps (K := K) fun p hp => hr2 p (pm.mem_iff.mp hp))
    have pm2 := pm.map (·.2)
    rw [List.map_append] at pm2
    exact q _ _ _ _ g .non (f _ pm2 (hf_up hf))
  · exact f.elim
theorem sim_hpop {K : PySem.W.Frag} : SimC K (rHPop K) fHPop := by
  intro Z xs ds H M Q Q' S r f q
  unfold fHPop at f
  split at f
  · obtain ⟨x, es, hm, hok, hi, f⟩ := f
    cases r with
    | cons ra rb =>
    cases rb
    cases ra
    obtain ⟨vs, hH, rl⟩ := S.cell _ _ hm
    obtain ⟨ps, rfl, e2, hr⟩ := rl.zip
    cases ps with
    | nil => cases e2
    | cons p ps =>
      cases e2
      obtain ⟨n, hq⟩ := hq_of hm hH (ps := p :: ps) hok hr
      refine ⟨_, p, ps, n, _, rfl, hq, hH, hf_dn (ps := p :: ps) hi, fun ps' pm hf => ?_⟩
      have g := Go.putL S (.inr ⟨_, hm⟩) (RepL.ofps (K := K) (ps := ps') fun z hz => hr z (List.mem_cons_of_mem _ (pm.mem_iff.mp hz)))
      exact q _ _ _ _ g ((hr p List.mem_cons_self).up g.ex) (f _ (pm.map _) (hf_up hf))
  · exact f.elim
theorem leD_tr : ∀ a b c, leD a b → leD b c → leD a c := fun a b c h1 h2 => leVD_tr (.non, a) (.non, b) (.non, c) h1 h2
theorem leD_rf : ∀ a, leD a a := fun a => leVD_rf (.non, a)
/-- the first of a heap is its least -/
theorem isHp.least {x : D} {es : List D} (h : isHp (x :: es)) : ∀ e ∈ x :: es, leD x e := fun e he => by
  obtain ⟨i, hi⟩ := List.mem_iff_getElem?.mp he
  exact hf_first leD_tr leD_rf h (x := x) rfl (fun i ⟨a, ha⟩ j hj => by
    have := (List.getElem?_eq_some_iff.mp ha).1
    exact ⟨_, List.getElem?_eq_getElem (by omega)⟩) i e hi
end L3
/-! ### try with several clauses, with names or without -/
namespace L3
open PySem L2 PySem.Spec PyProof.Rows
/-- a clause: its class, its name's place, what then follows -/
abbrev Cl := Value × Option Nat × (Addr → Value → Option Addr → TS)
def endsNo (D : Ends) : Option Nat → Ends
  | none => D
  | some i => { nx := fun σ' H' => D.nx (σ'.set i none) H', rt := D.rt, bk := fun σ' H' => D.bk (σ'.set i none) H', ct := fun σ' H' => D.ct (σ'.set i none) H' }
def stAt (σ : L2.St) (a : Addr) : Option Nat → L2.St
  | none => σ
  | some i => σ.set i (some (.ref a))
def wMix (K : PySem.W.Frag) (Wout : WX) (D : Ends) : List Cl → WX
  | [] => Wout
  | (c, i, ts) :: r => fun cls d σ H => ∃ b, PySem.W.exmOne K cls c = some b ∧ (b = true → ∀ a, H a = none → ts a cls d (endsNo D i) (stAt σ a i) H) ∧ (b = false → wMix K Wout D r cls d σ H)
def NmOk (X : Cx) : Option Str → Option Nat → Prop
  | none, none => True
  | some n, some i => X.N[i]? = some n ∧ X.env.kindOf n = some .local
  | _, _ => False
inductive HdsMix (X : Cx) : List ExceptHandler → List Cl → Prop
  | nil : HdsMix X [] []
  | cons {x : Str} {c : Value} {nm : Option Str} {i : Option Nat} {ts : Addr → Value → Option Addr → TS} {b₀ : Stmt} {suite : List Stmt} {np pos' : Pos} {hds : List ExceptHandler} {l : List Cl} (hc : Names X x c) (hn : NmOk X nm i)
      (hsu : ∀ (a : Addr) (oe : Obj) (cls : Value) (d : Option Addr) (pn : List (Addr × Obj)), Zc cls d oe → (∃ vs, oe.data = .fields vs) → PSs (X.suite a ((a, oe) :: pn)) (b₀ :: suite) (ts a cls d)) (r : HdsMix X hds l) :
      HdsMix X (.ExceptHandler (some (.Name x np)) nm (b₀ :: suite) pos' :: hds) ((c, i, ts) :: l)
section
variable {X : Cx} {body : List Stmt} {h₀ : ExceptHandler} {hds : List ExceptHandler} {l : List Cl} {pos : Pos} {tb : WX → TS} {Wout : WX}
theorem sp_untry {pins : List (Addr × Obj)} {D : Ends} {f : Flow} {s1 : Shared} {xe} (ok : X.Ok) (h : SP (X.tr (X.pn ++ pins) xe) [] D f s1) : SP X pins D f s1 := by
  cases f with
  | next =>
    obtain ⟨σ', H', J, q⟩ := h
    exact ⟨σ', H', J.ofTry ok, q⟩
  | brk =>
    obtain ⟨σ', H', J, q⟩ := h
    exact ⟨σ', H', J.ofTry ok, q⟩
  | cont =>
    obtain ⟨σ', H', J, q⟩ := h
    exact ⟨σ', H', J.ofTry ok, q⟩
  | ret u =>
    obtain ⟨v, σ', H', J, r, q⟩ := h
    exact ⟨v, σ', H', J.ofTry ok, r, q⟩
theorem ps_try_mix (hs : X.stack = X.env :: X.outer) (hf : X.env.frame = some X.env.locals) (hN : X.N.Nodup) (tk : Takes X Wout)
    (hb : ∀ (W : WX) (pn : List (Addr × Obj)) (xe : Value → Shared → Prop), Takes (X.tr pn xe) W → PassesOwn (model X.prog X.w) X.A X.env xe → PSs (X.tr pn xe) body (tb W))
    (hh : HdsMix X (h₀ :: hds) l) : PS X (.Try body (h₀ :: hds) [] [] pos) (fun D σ H => tb (wMix X.K Wout D l) D σ H) := by
  refine ⟨fun pins s σ H D I h => ?_⟩
  have ok := I.ok
  have hfr : X.A.frames = some (X.env :: X.outer) := by rw [ok.frames, hs]
  refine wpAny_Try_except (wpAny_mono ((hb (wMix X.K Wout D l) (X.pn ++ pins) (fun e s₁ => wpAny (model X.prog X.w) X.A (noteFrame e X.env) (fun _ s₂ => wpAny (model X.prog X.w) X.A (setFlight e none) (fun _ s₃ =>
    wpAny (model X.prog X.w) X.A (handleBy e X.env (h₀ :: hds)) (SP X pins D) X.xe s₃) X.xe s₂) X.xe s₁) (fun u s' xx => ?_) PassesOwn.looking).run [] s σ H D (I.toTry _) h) (fun f s1 hsp => ?_) fun _ _ he => he)
  rotate_left
  · have k := sp_untry ok hsp
    cases f with
    | next => exact wpAny_execs_nil k
    | _ => exact k
  obtain ⟨a, B, sI, pins', σ', H', cls, d, rfl, J', nb, up, sky, na, os, ag, w⟩ := xx
  have J : Inv X pins σ' H' sI := J'.ofTry ok
  rw [hs] at sky
  have at_ : ∀ h', HandSPX.FlyingZ B (X.env :: X.outer) a (Zc cls d) h' → s'.heap.UpToSlots h' → ∃ oe vs, h'.get? a = some oe ∧ Zc cls d oe ∧ oe.data = .fields vs ∧ Inv X pins σ' H' { s' with heap := h' } ∧ Inv (X.suite a ((a, oe) :: (X.pn ++ pins))) [] σ' H' { s' with heap := h' } := fun h' fl u => by
    have J1 : Inv X pins σ' H' { s' with heap := h' } := J.landed nb fl.1 (up.trans u) os ag
    obtain ⟨oe, vs, he, hz, hd⟩ := fl.there
    have out : a ∉ frs (X.env :: X.outer) := fun hm => by
      obtain ⟨_, o', e', no⟩ := fl.2.2.1.mem hm
      rw [he] at e'
      cases e'
      exact no _ hd
    have k := J1.suite he hd na (fun z => out (List.mem_filterMap.mpr ⟨X.env, List.mem_cons_self, by rw [hf, z]⟩)) fun hm => by
      obtain ⟨e, he', q⟩ := List.mem_filterMap.mp hm
      exact out (List.mem_filterMap.mpr ⟨e, List.mem_cons_of_mem _ he', q⟩)
    exact ⟨oe, vs, he, hz, hd, J1, k⟩
  refine Sky.land Zc.steady hfr hf sky fun h3 fl3 up3 => ?_
  obtain ⟨oe3, vs3, he3, hz3, hd3, J3, S3⟩ := at_ h3 fl3 up3
  have go : ∀ {hds' : List ExceptHandler} {l' : List Cl}, HdsMix X hds' l' → wMix X.K Wout D l' cls d σ' H' → wpAny (model X.prog X.w) X.A (handleBy (.ref a) X.env hds') (SP X pins D) X.xe { s' with heap := h3 } := by
    intro hds' l' hk
    induction hk with
    | nil =>
      intro w
      refine wpAny_handleBy_nil ?_
      obtain ⟨k1, k2, k3, oe, vs, T, oT, ts', he, hz, hd, h1, hr⟩ := id fl3
      unfold PySem.passOn
      refine wpAny_bind (wpAny_field he hd h1 ?_)
      rw [if_neg (show ¬ ((Value.ref T == Value.none) = true) from by simp)]
      have fly : wpAny (model X.prog X.w) X.A (setFlight (.ref a) X.env.frame) (fun _ s4 => wpAny (model X.prog X.w) X.A (throw (.ref a) : Sem Flow) (SP X pins D) X.xe s4) X.xe { s' with heap := h3 } := by
        rw [hf]
        exact HandSPX.setFlight_upZ fl3 fun h4 hh4 up4 => wpAny_throw (tk _ _ ⟨a, B, sI, pins, σ', H', cls, d, rfl, J, nb, (up.trans up3).trans up4, .inr (.inr (by rw [hs]; exact hh4)), na, os, ag, w⟩)
      first
        | exact wpAny_bind (wpAny_pure (wpAny_bind fly))
        | exact wpAny_bind fly
    | @cons x c nm i ts b₀ suite np pos' hds2 l2 hc hn hsu r ih =>
      intro w
      obtain ⟨b, hb1, hyes, hno⟩ := w
      refine wpAny_handleBy_cons (codeAny_handlers_test ?_) (by intro q; cases q)
      have LT : PySem.W.Looks (model X.prog X.w) h3 (typeOf (.ref a)) cls := fun A Q E s k q => wpAny_typeOf_ref (k _ _ he3) (by rw [hz3.1]; exact q)
      have LM := PySem.W.exm_one (M := model X.prog X.w) (J3.kIn) LT hb1
      have named : ∀ {Q : Value → Shared → Prop} {E : Value → Shared → Prop}, Q c { s' with heap := h3 } → wpAny (model X.prog X.w) (X.A.mark (some (.ref a))) (eval (.Name x np) X.env) Q E { s' with heap := h3 } := fun {Q E} q => by
        rcases hc with ⟨hg, hdbg, hm | ⟨hm, hv, hnn⟩⟩
        · exact ld_glob (X := X.suite a ((a, oe3) :: (X.pn ++ pins))) S3 hg hm q hdbg
        · exact ld_blt (X := X.suite a ((a, oe3) :: (X.pn ++ pins))) S3 hg hm hv q hnn hdbg
      refine named (LM.here ?_)
      cases b with
      | false => exact ih (hno rfl)
      | true =>
        have w2 := hyes rfl a na
        cases nm with
        | none =>
          cases i with
          | some _ => exact hn.elim
          | none =>
            refine codeAny_handlers_suite (HandSPX.lands_againZ fl3 fun h4 fl4 up4 => ?_)
            obtain ⟨oe4, vs4, he4, hz4, hd4, J4, S4⟩ := at_ h4 fl4 (up3.trans up4)
            refine wpAny_mono ((hsu a oe4 cls d (X.pn ++ pins) hz4 ⟨_, hd4⟩).run [] _ _ H' _ S4 w2) (fun f s6 hsp => ?_) (fun _ _ z => False.elim z)
            cases f with
            | ret u =>
              obtain ⟨v6, σ6, H6, S6, r6, q6⟩ := hsp
              exact ⟨_, _, _, S6.unsuite ok, r6, q6⟩
            | _ =>
              obtain ⟨σ6, H6, S6, q6⟩ := hsp
              exact ⟨_, _, S6.unsuite ok, q6⟩
        | some n =>
          cases i with
          | none => exact hn.elim
          | some i =>
            obtain ⟨hi, hln⟩ := hn
            refine codeAny_handlers_suite_as (HandSPX.lands_againZ fl3 fun h4 fl4 up4 => ?_)
            obtain ⟨oe4, vs4, he4, hz4, hd4, J4, S4⟩ := at_ h4 fl4 (up3.trans up4)
            refine store_ok (X := X.suite a ((a, oe4) :: (X.pn ++ pins))) (v := .ref a) S4 hN hi (.inl hln) rfl (fun s5 S5 => ?_) (.inr hln)
            refine wpAny_mono ((hsu a oe4 cls d (X.pn ++ pins) hz4 ⟨_, hd4⟩).run [] s5 _ H' _ S5 w2) (fun f s6 hsp => ?_) (fun _ _ z => False.elim z)
            have end_ : ∀ {σ6 : L2.St} {H6 : Hp} {Q : Shared → Prop}, Inv (X.suite a ((a, oe4) :: (X.pn ++ pins))) [] σ6 H6 s6 → (∀ s7, Inv X pins (σ6.set i none) H6 s7 → Q s7) →
                wpAny (model X.prog X.w) X.A (do bindName X.env n .none; unbindBehindTheSuite X.env n pos') (fun _ s7 => Q s7) X.xe s6 := fun {σ6 H6 Q} S6 hq => gone_ok (S6.unsuite ok) hN hi hln hq
            cases f with
            | ret u =>
              obtain ⟨v6, σ6, H6, S6, r6, q6⟩ := hsp
              exact end_ S6 fun s7 J7 => ⟨_, _, _, J7, r6, q6⟩
            | _ =>
              obtain ⟨σ6, H6, S6, q6⟩ := hsp
              exact end_ S6 fun s7 J7 => ⟨_, _, J7, q6⟩
  exact go hh w
end
end L3
namespace L3
open PySem L2
abbrev DCl := Option Nat × (Str → Option Bool) × (Addr → Str → Addr → WS)
def enD (D : Ends3) : Option Nat → Ends3
  | none => { nx := D.nx, rt := D.rt, bk := D.bk, ct := D.ct }
  | some i => { nx := fun ρ2 M2 => D.nx (ρ2.set i none) M2, rt := D.rt, bk := fun ρ2 M2 => D.bk (ρ2.set i none) M2, ct := fun ρ2 M2 => D.ct (ρ2.set i none) M2 }
def atD (ρ : En) (d : D) : Option Nat → En
  | none => ρ
  | some i => ρ.set i (some d)
def wMixX (D : Ends3) : List DCl → XR
  | [] => D.xr
  | (i, hit, ws) :: r => fun y dx fs ρ' M' => match hit y with
    | some true => ∀ a, ws a y dx (enD D i) (atD ρ' (.exc a y dx fs.1 fs.2) i) M'
    | some false => wMixX D r y dx fs ρ' M'
    | none => False
def wTryMix (cl : List DCl) (wb : WS) : WS := fun D ρ M => wb { D with xr := wMixX D cl } ρ M
inductive DHds (X : Cx) : List ExceptHandler → List Cl → List DCl → Prop
  | nil : DHds X [] [] []
  | cons {x : Str} {c : Value} {nm : Option Str} {i : Option Nat} {ts : Addr → Str → Addr → Addr → Obj → List (Addr × Obj) → TS} {ws : Addr → Str → Addr → WS} {hit : Str → Option Bool} {b₀ : Stmt} {suite : List Stmt} {np pos' : Pos} {hds : List ExceptHandler} {l : List Cl} {dl : List DCl} (hc : Names X x c) (hn : NmOk X nm i) (hh : Hits X.K c hit)
      (hS : ∀ (a : Addr) (oe : Obj) (y : Str) (C dx : Addr) (pn : List (Addr × Obj)), CxIs X → Zc (.ref C) (some dx) oe → (∃ vs, oe.data = .fields vs) → ClsAt X.K y C → hit y = some true → DSs (X.suite a ((a, oe) :: pn)) (fun _ _ _ _ => False) (b₀ :: suite) (ts a y C dx oe pn) (ws a y dx))
      (r : DHds X hds l dl) (hts : ∀ a y C dx oe pn, ts a y C dx oe pn = ts a y C dx o0 [] := by intros; rfl) :
      DHds X (.ExceptHandler (some (.Name x np)) nm (b₀ :: suite) pos' :: hds) ((c, i, tsOf X.K hit ts) :: l) ((i, hit, ws) :: dl)
section
variable {X : Cx} {W : WX3} {body : List Stmt} {h₀ : ExceptHandler} {hds : List ExceptHandler} {l : List Cl} {dl : List DCl} {pos : Pos} {tb : WX3 → List (Addr × Obj) → (Value → Shared → Prop) → TS} {wb : WS}
theorem DHds.mix (h : DHds X hds l dl) : HdsMix X hds l := by
  induction h with
  | nil => exact .nil
  | cons hc hn hh hS r hts ih => exact .cons hc hn (suite_pe hS hts) ih
theorem DHds.sim (hh : DHds X hds l dl) {Z H : Hp} {M : Mp} {D3 : Ends3} {D : Ends} (en : EndsRel X.K Z W H M D3 D) {y : Str} {C dx : Addr} {fs : XV} {ρ' : En} {σ' : L2.St} {H' : Hp} {M' : Mp}
    (ca : ClsAt X.K y C) (r' : R3 X.K Z ρ' M' σ' H') (g : Go X.K Z H M H' M') (hx : D3.xr y dx fs ρ' M' → W (.ref C) (some dx) σ' H') (he : ∀ a : Addr, Rep X.K (fz Z H' M') (.ref a) (.exc a y dx fs.1 fs.2)) : wMixX D3 dl y dx fs ρ' M' → wMix X.K W D l (.ref C) (some dx) σ' H' := by
  induction hh with
  | nil => exact hx
  | @cons x c nm i ts ws hit b₀ suite np pos' hds l dl hc hn hh hS r hts ih =>
    intro z
    unfold wMixX at z
    cases hy : hit y with
    | none =>
      rw [hy] at z
      exact z.elim
    | some b =>
      rw [hy] at z
      refine ⟨b, hh y C b ca hy, fun hb' a _ => ?_, fun hb' => ?_⟩
      · subst hb'
        have sm2 := (hS a ⟨.ref C, some dx, .fields #[], #[]⟩ y C dx [] ⟨⟩ ⟨rfl, rfl⟩ ⟨_, rfl⟩ ca hy).sm
        rw [hts] at sm2
        refine ⟨y, C, dx, rfl, rfl, ca, hy, ?_⟩
        cases i with
        | none => exact sm2 Z _ _ M' _ H' _ r' (z a) ⟨fun ρ2 M2 σ2 H2 r2 g2 q => en.nx _ _ _ _ r2 (g.trans g2) q, fun v d H2 M2 g2 r2 q => en.rt v d H2 M2 (g.trans g2) r2 q, fun ρ2 M2 σ2 H2 r2 g2 q => en.bk _ _ _ _ r2 (g.trans g2) q, fun ρ2 M2 σ2 H2 r2 g2 q => en.ct _ _ _ _ r2 (g.trans g2) q, fun _ _ _ _ _ _ _ _ _ _ _ _ _ _ _ z => z.elim⟩
        | some i =>
          refine sm2 Z _ _ M' _ H' _ ⟨r'.sat, r'.env.set i (he a)⟩ (z a) ⟨fun ρ2 M2 σ2 H2 r2 g2 q => ?_, fun v d H2 M2 g2 r2 q => en.rt v d H2 M2 (g.trans g2) r2 q, fun ρ2 M2 σ2 H2 r2 g2 q => ?_, fun ρ2 M2 σ2 H2 r2 g2 q => ?_, fun _ _ _ _ _ _ _ _ _ _ _ _ _ _ _ z => z.elim⟩
          · exact en.nx _ _ _ _ ⟨r2.sat, r2.env.gone i⟩ (g.trans g2) q
          · exact en.bk _ _ _ _ ⟨r2.sat, r2.env.gone i⟩ (g.trans g2) q
          · exact en.ct _ _ _ _ ⟨r2.sat, r2.env.gone i⟩ (g.trans g2) q
      · subst hb'
        exact ih z
theorem ds_try_mix (hs : X.stack = X.env :: X.outer) (hf : X.env.frame = some X.env.locals) (hN : X.N.Nodup) (tw : Takes X W)
    (hb : ∀ (W' : WX3) (pn : List (Addr × Obj)) (xe : Value → Shared → Prop), Takes (X.tr pn xe) W' → PassesOwn (model X.prog X.w) X.A X.env xe → DSs (X.tr pn xe) W' body (tb W' pn xe) wb)
    (hh : DHds X (h₀ :: hds) l dl) (htb : ∀ W' pn xe, tb W' pn xe = tb W' [] (fun _ _ => False) := by intros; rfl) :
    DS X W (.Try body (h₀ :: hds) [] [] pos) (fun D σ H => tb (wMix X.K W D l) [] (fun _ _ => False) D σ H) (wTryMix dl wb) := by
  refine ⟨ps_try_mix hs hf hN tw (tb := fun W' => tb W' [] (fun _ _ => False)) (fun W' pn xe tk pw => htb W' pn xe ▸ (hb W' pn xe tk pw).pe) hh.mix, fun Z D3 ρ M σ H D r h en => ?_⟩
  have sm := (hb (wMix X.K W D l) [(X.env.locals, ⟨.none, none, .fields #[], #[]⟩)] (fun _ _ => False) takes_void PassesOwn.never).sm
  rw [htb] at sm
  refine sm Z _ ρ M σ H D r h ⟨en.nx, en.rt, en.bk, en.ct, fun y C dx vs fs ρ' σ' H' M' ca r' g e1 l1 rf z => ?_⟩
  exact hh.sim en ca r' g (fun z => en.xr y C dx vs fs ρ' σ' H' M' ca r' g e1 l1 rf z) (fun a => .exc e1 l1 rf) z
end
end L3
namespace L3
open PySem L2
section
variable {X : Cx} {W : WX3} {a b c : Expr} {pos : Pos} {tA : TT} {wA : WT} {ta tb : TE} {wa wb : XR → WE}
/-- a if c else b, either may raise -/
def wIfX (c : WT) (wa wb : XR → WE) : XR → WE := fun xr ρ M Q => c ρ M fun b M1 => if b = true then wa xr ρ M1 Q else wb xr ρ M1 Q
theorem dx_if (hc : DT X c tA wA) (ha : DX X W a ta wa) (hb : DX X W b tb wb) : DX X W (.IfExp c a b pos) (tIf tA ta tb) (wIfX wA wa wb) := by
  refine ⟨pe_ifExp hc.pe ha.pe hb.pe, fun xr Z ρ M σ H Q Q' s h q qx => ?_⟩
  refine hc.sm Z ρ M σ H _ _ s h fun y H1 M1 g1 q1 => ?_
  cases y with
  | true => exact ha.sm xr Z ρ M1 σ H1 _ _ (s.go g1) q1 (fun v d2 H2 M2 g2 r2 q2 => q v d2 H2 M2 (g1.trans g2) r2 q2) fun x C dx vs fs H' M' ca g2 e l r z => qx x C dx vs fs H' M' ca (g1.trans g2) e l r z
  | false => exact hb.sm xr Z ρ M1 σ H1 _ _ (s.go g1) q1 (fun v d2 H2 M2 g2 r2 q2 => q v d2 H2 M2 (g1.trans g2) r2 q2) fun x C dx vs fs H' M' ca g2 e l r z => qx x C dx vs fs H' M' ca (g1.trans g2) e l r z
end
end L3
/-! ### xs.remove(x), x any data that is held -/
namespace L3
open PySem L2
theorem map_erIdx {α β : Type} (f : α → β) : ∀ (l : List α) (i : Nat), (l.map f).eraseIdx i = (l.eraseIdx i).map f
  | [], _ => rfl
  | _ :: _, 0 => rfl
  | x :: l, i + 1 => by
    show f x :: (l.map f).eraseIdx i = f x :: (l.eraseIdx i).map f
    rw [map_erIdx f l i]
theorem slot_remove_call {X : Cx} {E : Value → Shared → Prop} {s : Shared} {l : Addr} {u : Value} {its : Array Value} {c : Nat} {Q : Value → Shared → Prop} (e : s.heap.get? l = some { cls := .type "list", data := .seq its c })
    (h : ∀ R : Result → Shared → Prop, (∀ v s', Q v s' → R (.ok (.ret v)) s') → codeAny (model X.prog X.w) X.A (.builtin "list.remove.loop" ⟨[.ref l, u, rawInt 0], []⟩) R s) : wpAny (model X.prog X.w) X.A (call (.builtin "list.remove") [.ref l, u]) Q E s := by
  refine wpAny_call (codeAny_call_builtin PySem.F.slot_list_remove.plain PySem.F.entry_list_remove (PySem.F.slot_list_remove.check _ _ _ _ _ _ _ _ ⟨_, e, rfl⟩ (PySem.F.args_list_remove_2 _ _) ?_))
  refine wpAny_bind (wpAny_bind (wpAny_pure ?_))
  exact wpAny_pure (wpAny_pure ⟨plainId_quiet PySem.MeetsSeq.plain_remove_loop _, h _ fun v s' q => q⟩)
section
variable {X : Cx} {pins : List (Addr × Obj)} {σ : L2.St} {H : Hp} {l : Addr} {n : Nat} {ps : List VD} {p : VD} {u : Value} {s : Shared} {R : Result → Shared → Prop}
theorem rm_loop (I : Inv X pins σ H s) (hA : X.A.units + 61 < cLine) (hl : H l = some (.lst (ps.map (·.1)))) (n60 : n ≤ 60) (hr : ∀ q ∈ ps, Rep X.K H q.1 q.2 ∧ fit n q.2) (rp : Rep X.K H p.1 p.2) (fp : fit n p.2) (ru : RelV p.1 u) {j : Nat} (hj : j < ps.length)
    (he : ∀ i q, ps[i]? = some q → i ≤ j → PyData.eqv q.2.py p.2.py = decide (i = j)) (done : ∀ s', Inv X pins σ (upd H l (.lst ((ps.eraseIdx j).map (·.1)))) s' → R (.ok (.ret .none)) s') :
    ∀ k i : Nat, j - i = k → i ≤ j → codeAny (model X.prog X.w) X.A (.builtin "list.remove.loop" ⟨[.ref l, u, rawInt i], []⟩) R s := by
  obtain ⟨z, its, c, r, len, e⟩ := I.lstM hl
  have eq_ : ∀ i, i ≤ j → ∃ v, its.toArray[i]? = some v ∧ PySem.SeqAt.EqAt X.A.in1 s v u (decide (i = j)) := fun i hi => by
    obtain ⟨q, v, hq, mq, hv, rv⟩ := get_val r (show i < ps.length by omega)
    refine ⟨v, hv, ?_⟩
    rw [← he i q hq hi]
    obtain ⟨as, k1⟩ := Dp.reads I _ _ _ (Rep.dp n _ _ (hr q mq).2 (hr q mq).1) rv
    obtain ⟨bs, k2⟩ := Dp.reads I _ _ _ (Rep.dp n _ _ fp rp) ru
    have l1 := fit_lay n _ (hr q mq).2
    have l2 := fit_lay n _ fp
    have hA1 : X.A.in1.units + 60 < cLine := by
      show X.A.units + 1 + 60 < cLine
      omega
    exact SeqAt.eqAt_reads _ _ X.A.in1 s _ _ as bs k1 k2 l1.1 l2.1 (by omega)
  intro k
  induction k with
  | zero =>
    intro i hk hi
    obtain rfl : i = j := by omega
    obtain ⟨v, hv, ev⟩ := eq_ i (Nat.le_refl _)
    refine codeAny_builtin PySem.MeetsSeq.entry_remove_loop ?_
    rw [Around.under_plainId PySem.MeetsSeq.plain_remove_loop _]
    refine wpAny_bind (wpAny_bind (wpAny_seqItems e rfl (wpAny_pure ?_)))
    simp only [Int.toNat_natCast]
    rw [hv]
    refine wpAny_bind (ev _ _ _ _ ?_)
    rw [decide_eq_true rfl, if_pos rfl]
    have sz : its.toArray.size ≤ sizeLine := by rw [List.size_toArray, ← len]; exact z
    refine wpAny_bind (wpAny_updateSeq e rfl (wpAny_pure (done _ ?_)) sz ?_)
    · refine I.lset (its' := its.eraseIdx i) hl e (List.eraseIdxIfInBounds_toArray ..) ?_ ?_
      · have k := r.eraseIdx i
        rw [show (ps.map (·.1)).eraseIdx i = (ps.eraseIdx i).map (·.1) from map_erIdx ..] at k
        exact k
      · rw [List.length_map]
        rw [List.length_map] at z
        exact Nat.le_trans (List.length_eraseIdx_le ..) z
    · rw [List.eraseIdxIfInBounds_toArray, List.size_toArray]
      have := List.length_eraseIdx_le (l := its) (i := i)
      rw [List.size_toArray] at sz
      omega
  | succ k ih =>
    intro i hk hi
    obtain ⟨v, hv, ev⟩ := eq_ i hi
    refine codeAny_builtin PySem.MeetsSeq.entry_remove_loop ?_
    rw [Around.under_plainId PySem.MeetsSeq.plain_remove_loop _]
    refine wpAny_bind (wpAny_bind (wpAny_seqItems e rfl (wpAny_pure ?_)))
    simp only [Int.toNat_natCast]
    rw [hv]
    refine wpAny_bind (ev _ _ _ _ ?_)
    rw [decide_eq_false (by omega), if_neg Bool.false_ne_true]
    have hc : ((i : Int) + 1) = ((i + 1 : Nat) : Int) := by omega
    rw [hc]
    exact wpAny_pure ⟨plainId_quiet PySem.MeetsSeq.plain_remove_loop _, ih (i + 1) (by omega) (by omega)⟩
end
def rRemD (K : PySem.W.Frag) : V → List V → Hp → VK → Prop := fun x vs H Q => ∃ (l : Addr) (ps : List VD) (p : VD) (j n : Nat), x = .ref l ∧ vs = [p.1] ∧ H l = some (.lst (ps.map (·.1))) ∧ n ≤ 60 ∧ (∀ q ∈ ps, Rep K H q.1 q.2 ∧ fit n q.2) ∧ Rep K H p.1 p.2 ∧ fit n p.2 ∧ j < ps.length ∧
  (∀ i q, ps[i]? = some q → i ≤ j → PyData.eqv q.2.py p.2.py = decide (i = j)) ∧ Q .non (upd H l (.lst ((ps.eraseIdx j).map (·.1))))
theorem mt_removeD {X : Cx} {k : Nat} (hr : Room k X.A) : MtR X "list.remove" (rRemD X.K) := by
  intro pins s σ H x xs v us Q I rx r h
  obtain ⟨l, ps, p, j, n, rfl, rfl, hl, hn, hps, rp, fp, hj, he, q⟩ := h
  obtain ⟨u, rfl, ru⟩ := Vals.one r
  cases rx
  obtain ⟨z, its, c, r, len, e⟩ := I.lstM hl
  have hA : X.A.units + 61 < cLine := by have := hr.un; omega
  exact slot_remove_call e fun R hR => rm_loop I hA hl hn hps rp fp ru hj he (fun s' I' => hR _ _ ⟨.non, _, I', rfl, q⟩) _ 0 rfl (Nat.zero_le _)
section
variable {X : Cx} {o e : Expr} {to te : TE} {wo we : WE} {apos cpos : Pos} {k : Nat}
def wRemD (wo we : WE) : WE := fun ρ M Q => wo ρ M fun d M1 => match d with
  | .tok a => (∃ es, M1 a = some (.lst es)) ∧ we ρ M1 fun x M2 => ∃ (es : List D) (n j : Nat), M2 a = some (.lst es) ∧ n ≤ 60 ∧ (∀ e ∈ es, fit n e) ∧ fit n x ∧ j < es.length ∧ (∀ i e, es[i]? = some e → i ≤ j → PyData.eqv e.py x.py = decide (i = j)) ∧ Q .non (setM M2 a (.lst (es.eraseIdx j)))
  | _ => False
theorem de_removeD (hr : Room k X.A) (ho : DE X o to wo) (he : DE X e te we) (hbase : attributeBase o "remove" X.env (eval o X.env) = eval o X.env := by rfl)
    (hfew : ((backTo cpos (starEach [e] X.env)).all (fun x => !x.1) && (backToKw cpos (keywordEach [] X.env)).all (fun x => x.1.isSome)
      && decide (([e] : List Expr).length + ([] : List Keyword).length + (if ([] : List Keyword).isEmpty then 0 else 1) < 30)) = true := by rfl)
    (hline : (apos.endLine == cpos.line) = true := by rfl) (hs : starEach [e] X.env = (false, eval e X.env) :: starEach [] X.env := by rfl) (hplain : (backTo cpos (starEach [] X.env)).any (·.1) = false := by rfl) :
    DE X (.Call (.Attribute o "remove" apos) [e] [] cpos) (tBM X.K "list" (rRemD X.K) to (tCons te tNil)) (wRemD wo we) := by
  refine ⟨pe_bm PySem.F.plainAttrs_list PySem.F.slot_list_remove PySem.F.type_list_remove (mt_removeD hr) ho.pe (pa_cons he.pe pa_nil hs) hbase hfew hline hs hplain, fun Z ρ M σ H Q Q' s h q => ?_⟩
  refine ho.sm Z ρ M σ H _ _ s h fun x d H1 M1 g1 r1 q1 => ?_
  cases d with
  | tok a =>
    cases r1
    obtain ⟨⟨es0, hm⟩, q1⟩ := q1
    obtain ⟨vs0, e0, _⟩ := g1.sat.cell a _ hm
    refine ⟨.inl ⟨rfl, _, .inl (.inl e0)⟩, ?_⟩
    refine he.sm Z ρ M1 σ H1 _ _ (s.go g1) q1 fun y d H2 M2 g2 r2 q2 => ?_
    obtain ⟨es, n, j, hm2, hn, f1, f2, hj, hq, q3⟩ := q2
    obtain ⟨vs, e1, rl⟩ := g2.sat.cell a _ hm2
    obtain ⟨ps, rfl, rfl, hps⟩ := rl.zip
    have g3 := Go.putL (p := a) g2.sat (.inr ⟨_, hm2⟩) (RepL.ofps (K := X.K) (ps := ps.eraseIdx j) fun p hp => hps p (List.mem_of_mem_eraseIdx hp))
    rw [← map_erIdx (fun p : VD => p.2)] at g3
    refine ⟨a, ps, (y, d), j, n, rfl, rfl, e1, hn, fun q hq' => ⟨(hps q hq').up fz_sub, f1 _ (List.mem_map_of_mem hq')⟩, r2.up fz_sub, f2, by rw [List.length_map] at hj; exact hj, fun i q hi hij => hq i q.2 (by rw [List.getElem?_map, hi]; rfl) hij, q _ _ _ _ ((g1.trans g2).trans g3) .non q3⟩
  | _ => exact q1.elim
end
end L3
namespace L3
open PySem L2
theorem dt_eqS {X : Cx} {e1 e2 : Expr} {t1 t2 : TE} {w1 w2 : WE} {pos : Pos} (c : CxIs X) (a : Addr) (oe : Obj) (pn : List (Addr × Obj)) (h1 : DE (X.suite a ((a, oe) :: pn)) e1 t1 w1) (h2 : DE (X.suite a ((a, oe) :: pn)) e2 t2 w2) (hm : behindInMarks .Eq e2 = false := by first | exact nomark _ (by decide) (by decide) | rfl) :
    DT (X.suite a ((a, oe) :: pn)) (.Compare e1 [.Eq] [e2] pos) (tTest (tOp rEq t1 t2)) (wB (wOp (eqSc false) w1 w2)) := dt_cmp (op_eqS c a oe pn) sim_eqSc h1 h2 hm
end L3
set_option maxHeartbeats 0
namespace K31
open PySem L2 L3
open PyProof.Rows (envOfC)
def top (i : Nat) : Stmt := PySem.Challenge.pw_nonearer_k31_whole_queues.main.body.getD i (.Pass ⟨0, 0, 0, 0⟩)
abbrev s_Queue___init__ : Stmt := clsAt (top 5) 0
abbrev s_Queue_how_many : Stmt := clsAt (top 5) 1
abbrev s_Queue_put : Stmt := clsAt (top 5) 2
abbrev s_Queue_first : Stmt := clsAt (top 5) 3
abbrev s_Queue_take : Stmt := clsAt (top 5) 4
abbrev s_Queue_listed : Stmt := clsAt (top 5) 5
abbrev s_Queue_take_all : Stmt := clsAt (top 5) 6
abbrev s__law_heap : Stmt := top 7
abbrev s__law_draw : Stmt := top 8
abbrev s__law_pick : Stmt := top 9
abbrev s__law_entry : Stmt := top 10
abbrev s__law_least : Stmt := top 11
abbrev s__law_deed : Stmt := top 12
abbrev s_law : Stmt := top 13
abbrev i_Refused : Stmt := clsAt (top 3) 0
def errNames : List Str := ["StoreError", "Refused"]
def L_Refused : List (Str × Bool) := [("StoreError", false), ("Refused", true)]
def tab_Refused : Str → Option Bool := fun x => L_Refused.lookup x
theorem in_Refused {y : Str} {b : Bool} (h : tab_Refused y = some b) : y ∈ errNames := tab_in h (by decide +kernel)
def L_StoreError : List (Str × Bool) := [("StoreError", true), ("Refused", true)]
def tab_StoreError : Str → Option Bool := fun x => L_StoreError.lookup x
structure Txt (K : PySem.W.Frag) (mg : Str → Option Value) (aKINDS : Addr) : Prop where
  z_abs : mg "abs" = none
  z_bool : mg "bool" = none
  m_heapify : mg "heapify" = some (.builtin "_heapq.heapify")
  m_heappop : mg "heappop" = some (.builtin "_heapq.heappop")
  m_heappush : mg "heappush" = some (.builtin "_heapq.heappush")
  z_int : mg "int" = none
  z_isinstance : mg "isinstance" = none
  z_len : mg "len" = none
  z_list : mg "list" = none
  z_range : mg "range" = none
  z_sorted : mg "sorted" = none
  z_tuple : mg "tuple" = none
  ef : ∀ y C, ClsAt K y C → y ∈ errNames → ErrF K C
  nf_word : ∀ y C, ClsAt K y C → y ∈ errNames → PySem.W.findIn K (.ref C) "word" = some none
  hit_Refused : ∃ c : Addr, mg "Refused" = some (.ref c) ∧ Hits K (.ref c) tab_Refused
  hit_StoreError : ∃ c : Addr, mg "StoreError" = some (.ref c) ∧ Hits K (.ref c) tab_StoreError
  o_Queue : Own K "Queue" ["_heap"]
/-! ### contracts -/
/-- an entry of a queue: a number, a word, a number -/
structure Ent where
  a : Int
  w : Bool
  c : Int
def Ent.word (e : Ent) : Str := if e.w then "pair" else "lot"
def Ent.d (e : Ent) : D := .tup [.int e.a, .str e.word, .int e.c]
def qAt (M : Mp) (o h : Addr) (es : List Ent) : Prop := M o = some (.ins "Queue" [("_heap", .tok h)]) ∧ M h = some (.lst (es.map Ent.d)) ∧ isHp (es.map Ent.d) ∧ es.length ≤ 1000
def F_Queue___init__ : Fs := fun ds M Q _ => ∃ (o : Addr) (d : D) (es : List Ent), ds = [.tok o, d] ∧ M o = some (.ins "Queue" []) ∧ seqD M d = some (es.map Ent.d) ∧ es.length ≤ 1000 ∧ ∀ (h : Addr) (es' : List Ent) (M' : Mp), M h = none → es'.Perm es → qAt M' o h es' → (∀ b c, b ≠ o → M b = some c → M' b = some c) → Q .non M'
def F_Queue_how_many : Fs := fun ds M Q _ => ∃ (o h : Addr) (es : List Ent), ds = [.tok o] ∧ qAt M o h es ∧ Q (.int (es.length : Int)) M
def F_Queue_put : Fs := fun ds M Q _ => ∃ (o h : Addr) (es : List Ent) (e : Ent), ds = [.tok o, e.d] ∧ qAt M o h es ∧ es.length ≤ 500 ∧ ∀ es' : List Ent, es'.Perm (es ++ [e]) → isHp (es'.map Ent.d) → Q .non (setM M h (.lst (es'.map Ent.d)))
def F_Queue_first : Fs := fun ds M Q R => ∃ (o h : Addr) (es : List Ent), ds = [.tok o] ∧ qAt M o h es ∧ (match es with | [] => R "Refused" (["word"], [.str "empty"]) M | x :: _ => Q x.d M)
def F_Queue_take : Fs := fun ds M Q R => ∃ (o h : Addr) (es : List Ent), ds = [.tok o] ∧ qAt M o h es ∧ (match es with | [] => R "Refused" (["word"], [.str "empty"]) M | x :: r => ∀ es' : List Ent, es'.Perm r → isHp (es'.map Ent.d) → Q x.d (setM M h (.lst (es'.map Ent.d))))
def F_Queue_listed : Fs := fun ds M Q _ => ∃ (o h : Addr) (es : List Ent), ds = [.tok o] ∧ qAt M o h es ∧ Q (.tup (srtD (es.map Ent.d))) M
def F_Queue_take_all : Fs := fun ds M Q _ => ∃ (o h : Addr) (es : List Ent), ds = [.tok o] ∧ qAt M o h es ∧ ∀ (h' : Addr) (M' : Mp), M h' = none → qAt M' o h' [] → (∀ b c, b ≠ o → M b = some c → M' b = some c) → Q (.tup (srtD (es.map Ent.d))) M'
def F__law_heap : Fs := fun ds M Q _ => ∃ ns : List Int, ds = [.lst (ns.map .int)] ∧ ns.length ≤ 63 ∧ ∀ (M' : Mp) (a a0 : Addr), M' a = some (.drw a0) → Q (.tok a) M'
abbrev F__law_draw : Fs := drawF
abbrev F__law_pick : Fs := pickF
def F__law_entry : Fs := fun ds M Q _ => ∃ (a a0 : Addr), ds = [.tok a] ∧ M a = some (.drw a0) ∧ ∀ e : Ent, Q e.d M
def F__law_least : Fs := fun ds M Q _ => ∃ (o h : Addr) (es : List Ent) (b : Bool), ds = [.tok o, .bl b] ∧ qAt M o h es ∧ (match es with | [] => Q .non M | x :: r => if b = true then ∀ es' : List Ent, es'.Perm r → isHp (es'.map Ent.d) → Q x.d (setM M h (.lst (es'.map Ent.d))) else Q x.d M)
def F__law_deed : Fs := fun ds M Q _ => ∃ (a a0 o h u : Addr) (es due : List Ent), ds = [.tok a, .tok o, .tok u] ∧ M a = some (.drw a0) ∧ qAt M o h es ∧ M u = some (.lst (due.map Ent.d)) ∧ due.Perm es ∧ u ≠ h ∧ es.length ≤ 500 ∧
  ∀ (M' : Mp) (h' : Addr) (es' due' : List Ent), qAt M' o h' es' → M' u = some (.lst (due'.map Ent.d)) → due'.Perm es' → u ≠ h' → due'.length ≤ due.length + 1 → (h' = h ∨ M h' = none) → (∀ b c, b ≠ o → b ≠ h → b ≠ u → M b = some c → M' b = some c) → Q (.bl true) M'
def F_law : Fs := fun ds M Q _ => ∃ ns : List Int, ds = [.lst (ns.map .int)] ∧ ns.length ≤ 63 ∧ ∀ M', Q (.bl true) M'
theorem ini_Refused {P : Program} {w : World} {K : PySem.W.Frag} {mg : Str → Option Value} {base : Heap} {fI : Addr} {fd : FuncData} (Fn : Fun K "__init__" "Refused.__init__" i_Refused fI fd) : FnOk P w K mg base (L2.CX P w) 1 fI fd ["self", "word"] (spI K ["word"]) := by
  refine Fn.okX (N := ["self", "word"]) ⟨rfl, rfl, rfl, by decide +kernel, rfl, by decide +kernel, by decide +kernel⟩ (fun vs H Q E h => ?_) fun cdv A outer s H vs Q E hr h => ?_
  · obtain ⟨a, C, ys, rfl, l, _⟩ := h
    rw [List.length_cons, l]
    rfl
  · refine ⟨_, pss_one (ps_ost (de_var 0).pe (de_var 1).pe), ?_⟩
    obtain ⟨a, C, ys, rfl, l, T, hno, ha, q⟩ := h
    match ys, l with
    | [v], _ => exact ⟨v, rfl, .ref a, rfl, a, C, rfl, T, hno _ List.mem_cons_self, .inl ⟨ha, fun dx h1 h2 => q dx h1 h2⟩⟩
section
variable {P : Program} {w : World} {K : PySem.W.Frag} {mg : Str → Option Value} {base : Heap} {aKINDS : Addr}
theorem sc_Queue___init__ : FnScope ["self", "entries"] ["self", "entries"] (defScope s_Queue___init__) := ⟨rfl, rfl, rfl, by decide +kernel, rfl, by decide +kernel, by decide +kernel⟩
abbrev W_Queue___init__ : WS := (wSeq (wSetF "Queue" "_heap" (wVar 0) (wCB fListM (wCons (wVar 1) wNil))) (wDrop (wCB fIfy (wCons (wFld "Queue" "_heap" (wVar 0)) wNil))))
theorem dv_Queue___init__ {f : Addr} (T : Txt K mg aKINDS) (cdv : Value) (A : Around) (outer : List Env) (s : Shared) (H : Hp) (E : XK) (gd : A.guards = some []) (hr : Room 0 (A.deeper (envOfC "Queue.__init__" (defScope s_Queue___init__) s.heap.objs.size f cdv))) :
    ∃ t, DSs (cxOf (L2.CX P w) P w K mg base ["self", "entries"] "Queue.__init__" (defScope s_Queue___init__) f cdv A outer s H E) (lw E) (defBody s_Queue___init__) t W_Queue___init__ := by
  exact ⟨_, (dss_cons (ds_fld T.o_Queue (de_var 0) (de_callTy call_list_of sim_listM T.z_list (show bootBuiltins "list" = some (.type "list") from rfl) (da_cons (de_var 1) da_nil))) (dss_one (ds_expr (de_callMB (call_ify hr) sim_ify T.m_heapify (da_cons (de_fld T.o_Queue (de_var 0)) da_nil)))))⟩
theorem ok_Queue___init__ {f : Addr} {fd : FuncData} (Fn : Fun K "__init__" "Queue.__init__" s_Queue___init__ f fd) (T : Txt K mg aKINDS) (len : ∀ ds M Q E, F_Queue___init__ ds M Q E → ds.length = 2)
    (body : ∀ ds M Q R, F_Queue___init__ ds M Q R → W_Queue___init__ { nx := fun _ M' => Q .non M', rt := Q, xr := lx R } (startE 2 ds) M) : FnG P w K mg base 1 f fd ["self", "entries"] (lift K F_Queue___init__) :=
  ok_fn Fn sc_Queue___init__ len fun cdv A outer s H E gd hr => (dv_Queue___init__ T cdv A outer s H E gd hr).elim fun t ht => ⟨t, _, ht, body⟩
theorem sc_Queue_how_many : FnScope ["self"] ["self"] (defScope s_Queue_how_many) := ⟨rfl, rfl, rfl, by decide +kernel, rfl, by decide +kernel, by decide +kernel⟩
abbrev W_Queue_how_many : WS := (wRet (wCB fLen (wCons (wFld "Queue" "_heap" (wVar 0)) wNil)))
theorem dv_Queue_how_many {f : Addr} (T : Txt K mg aKINDS) (cdv : Value) (A : Around) (outer : List Env) (s : Shared) (H : Hp) (E : XK) (gd : A.guards = some []) (hr : Room 0 (A.deeper (envOfC "Queue.how_many" (defScope s_Queue_how_many) s.heap.objs.size f cdv))) :
    ∃ t, DSs (cxOf (L2.CX P w) P w K mg base ["self"] "Queue.how_many" (defScope s_Queue_how_many) f cdv A outer s H E) (lw E) (defBody s_Queue_how_many) t W_Queue_how_many := by
  exact ⟨_, (dss_one (ds_ret (de_callB call_lenA sim_len T.z_len (show bootBuiltins "len" = some (.builtin "len") from rfl) (da_cons (de_fld T.o_Queue (de_var 0)) da_nil))))⟩
theorem ok_Queue_how_many {f : Addr} {fd : FuncData} (Fn : Fun K "how_many" "Queue.how_many" s_Queue_how_many f fd) (T : Txt K mg aKINDS) (len : ∀ ds M Q E, F_Queue_how_many ds M Q E → ds.length = 1)
    (body : ∀ ds M Q R, F_Queue_how_many ds M Q R → W_Queue_how_many { nx := fun _ M' => Q .non M', rt := Q, xr := lx R } (startE 1 ds) M) : FnG P w K mg base 1 f fd ["self"] (lift K F_Queue_how_many) :=
  ok_fn Fn sc_Queue_how_many len fun cdv A outer s H E gd hr => (dv_Queue_how_many T cdv A outer s H E gd hr).elim fun t ht => ⟨t, _, ht, body⟩
theorem sc_Queue_put : FnScope ["self", "entry"] ["self", "entry"] (defScope s_Queue_put) := ⟨rfl, rfl, rfl, by decide +kernel, rfl, by decide +kernel, by decide +kernel⟩
abbrev W_Queue_put : WS := (wDrop (wCB fPush (wCons (wFld "Queue" "_heap" (wVar 0)) (wCons (wVar 1) wNil))))
theorem dv_Queue_put {f : Addr} (T : Txt K mg aKINDS) (cdv : Value) (A : Around) (outer : List Env) (s : Shared) (H : Hp) (E : XK) (gd : A.guards = some []) (hr : Room 0 (A.deeper (envOfC "Queue.put" (defScope s_Queue_put) s.heap.objs.size f cdv))) :
    ∃ t, DSs (cxOf (L2.CX P w) P w K mg base ["self", "entry"] "Queue.put" (defScope s_Queue_put) f cdv A outer s H E) (lw E) (defBody s_Queue_put) t W_Queue_put := by
  exact ⟨_, (dss_one (ds_expr (de_callMB (call_push hr) sim_push T.m_heappush (da_cons (de_fld T.o_Queue (de_var 0)) (da_cons (de_var 1) da_nil)))))⟩
theorem ok_Queue_put {f : Addr} {fd : FuncData} (Fn : Fun K "put" "Queue.put" s_Queue_put f fd) (T : Txt K mg aKINDS) (len : ∀ ds M Q E, F_Queue_put ds M Q E → ds.length = 2)
    (body : ∀ ds M Q R, F_Queue_put ds M Q R → W_Queue_put { nx := fun _ M' => Q .non M', rt := Q, xr := lx R } (startE 2 ds) M) : FnG P w K mg base 1 f fd ["self", "entry"] (lift K F_Queue_put) :=
  ok_fn Fn sc_Queue_put len fun cdv A outer s H E gd hr => (dv_Queue_put T cdv A outer s H E gd hr).elim fun t ht => ⟨t, _, ht, body⟩
theorem sc_Queue_first : FnScope ["self"] ["self"] (defScope s_Queue_first) := ⟨rfl, rfl, rfl, by decide +kernel, rfl, by decide +kernel, by decide +kernel⟩
abbrev W_Queue_first : WS := (wSeq (wIfS (wB (wOp (eqV false) (wCB fLen (wCons (wFld "Queue" "_heap" (wVar 0)) wNil)) (wC (.int 0)))) (wRaise "Refused" ["word"] (wCons (wC (.str "empty")) wNil)) wNext) (wRet (wOp ixD (wFld "Queue" "_heap" (wVar 0)) (wC (.int 0)))))
theorem dv_Queue_first {f : Addr} (T : Txt K mg aKINDS) (h_Refused : Err P w K mg base 1 "Refused" ["self", "word"] ["word"]) (cdv : Value) (A : Around) (outer : List Env) (s : Shared) (H : Hp) (E : XK) (gd : A.guards = some []) (hr : Room 2 (A.deeper (envOfC "Queue.first" (defScope s_Queue_first) s.heap.objs.size f cdv))) :
    ∃ t, DSs (cxOf (L2.CX P w) P w K mg base ["self"] "Queue.first" (defScope s_Queue_first) f cdv A outer s H E) (lw E) (defBody s_Queue_first) t W_Queue_first := by
  exact ⟨_, (dss_cons (ds_if (dt_cmp (op_eqV hr) sim_eqV (de_callB call_lenA sim_len T.z_len (show bootBuiltins "len" = some (.builtin "len") from rfl) (da_cons (de_fld T.o_Queue (de_var 0)) da_nil)) de_int) (dss_one (Classical.choose_spec (ds_raise h_Refused rfl (hr.mono (by decide)) takes_top (da_cons de_str da_nil)))) dss_nil) (dss_one (ds_ret (de_ix (de_fld T.o_Queue (de_var 0)) de_int))))⟩
theorem ok_Queue_first {f : Addr} {fd : FuncData} (Fn : Fun K "first" "Queue.first" s_Queue_first f fd) (T : Txt K mg aKINDS) (h_Refused : Err P w K mg base 1 "Refused" ["self", "word"] ["word"]) (len : ∀ ds M Q E, F_Queue_first ds M Q E → ds.length = 1)
    (body : ∀ ds M Q R, F_Queue_first ds M Q R → W_Queue_first { nx := fun _ M' => Q .non M', rt := Q, xr := lx R } (startE 1 ds) M) : FnG P w K mg base 3 f fd ["self"] (lift K F_Queue_first) :=
  ok_fn Fn sc_Queue_first len fun cdv A outer s H E gd hr => (dv_Queue_first T h_Refused cdv A outer s H E gd hr).elim fun t ht => ⟨t, _, ht, body⟩
theorem sc_Queue_take : FnScope ["self"] ["self"] (defScope s_Queue_take) := ⟨rfl, rfl, rfl, by decide +kernel, rfl, by decide +kernel, by decide +kernel⟩
abbrev W_Queue_take : WS := (wSeq (wIfS (wB (wOp (eqV false) (wCB fLen (wCons (wFld "Queue" "_heap" (wVar 0)) wNil)) (wC (.int 0)))) (wRaise "Refused" ["word"] (wCons (wC (.str "empty")) wNil)) wNext) (wRet (wCB fHPop (wCons (wFld "Queue" "_heap" (wVar 0)) wNil))))
theorem dv_Queue_take {f : Addr} (T : Txt K mg aKINDS) (h_Refused : Err P w K mg base 1 "Refused" ["self", "word"] ["word"]) (cdv : Value) (A : Around) (outer : List Env) (s : Shared) (H : Hp) (E : XK) (gd : A.guards = some []) (hr : Room 2 (A.deeper (envOfC "Queue.take" (defScope s_Queue_take) s.heap.objs.size f cdv))) :
    ∃ t, DSs (cxOf (L2.CX P w) P w K mg base ["self"] "Queue.take" (defScope s_Queue_take) f cdv A outer s H E) (lw E) (defBody s_Queue_take) t W_Queue_take := by
  exact ⟨_, (dss_cons (ds_if (dt_cmp (op_eqV hr) sim_eqV (de_callB call_lenA sim_len T.z_len (show bootBuiltins "len" = some (.builtin "len") from rfl) (da_cons (de_fld T.o_Queue (de_var 0)) da_nil)) de_int) (dss_one (Classical.choose_spec (ds_raise h_Refused rfl (hr.mono (by decide)) takes_top (da_cons de_str da_nil)))) dss_nil) (dss_one (ds_ret (de_callMB (call_hpop hr) sim_hpop T.m_heappop (da_cons (de_fld T.o_Queue (de_var 0)) da_nil)))))⟩
theorem ok_Queue_take {f : Addr} {fd : FuncData} (Fn : Fun K "take" "Queue.take" s_Queue_take f fd) (T : Txt K mg aKINDS) (h_Refused : Err P w K mg base 1 "Refused" ["self", "word"] ["word"]) (len : ∀ ds M Q E, F_Queue_take ds M Q E → ds.length = 1)
    (body : ∀ ds M Q R, F_Queue_take ds M Q R → W_Queue_take { nx := fun _ M' => Q .non M', rt := Q, xr := lx R } (startE 1 ds) M) : FnG P w K mg base 3 f fd ["self"] (lift K F_Queue_take) :=
  ok_fn Fn sc_Queue_take len fun cdv A outer s H E gd hr => (dv_Queue_take T h_Refused cdv A outer s H E gd hr).elim fun t ht => ⟨t, _, ht, body⟩
theorem sc_Queue_listed : FnScope ["self"] ["self"] (defScope s_Queue_listed) := ⟨rfl, rfl, rfl, by decide +kernel, rfl, by decide +kernel, by decide +kernel⟩
abbrev W_Queue_listed : WS := (wRet (wCB fTuple (wCons (wCB fSrt (wCons (wFld "Queue" "_heap" (wVar 0)) wNil)) wNil)))
theorem dv_Queue_listed {f : Addr} (T : Txt K mg aKINDS) (cdv : Value) (A : Around) (outer : List Env) (s : Shared) (H : Hp) (E : XK) (gd : A.guards = some []) (hr : Room 0 (A.deeper (envOfC "Queue.listed" (defScope s_Queue_listed) s.heap.objs.size f cdv))) :
    ∃ t, DSs (cxOf (L2.CX P w) P w K mg base ["self"] "Queue.listed" (defScope s_Queue_listed) f cdv A outer s H E) (lw E) (defBody s_Queue_listed) t W_Queue_listed := by
  exact ⟨_, (dss_one (ds_ret (de_callTy call_tuple_of sim_tuple T.z_tuple (show bootBuiltins "tuple" = some (.type "tuple") from rfl) (da_cons (de_callB (cr_srt hr) sim_srt T.z_sorted (show bootBuiltins "sorted" = some (.builtin "sorted") from rfl) (da_cons (de_fld T.o_Queue (de_var 0)) da_nil)) da_nil))))⟩
theorem ok_Queue_listed {f : Addr} {fd : FuncData} (Fn : Fun K "listed" "Queue.listed" s_Queue_listed f fd) (T : Txt K mg aKINDS) (len : ∀ ds M Q E, F_Queue_listed ds M Q E → ds.length = 1)
    (body : ∀ ds M Q R, F_Queue_listed ds M Q R → W_Queue_listed { nx := fun _ M' => Q .non M', rt := Q, xr := lx R } (startE 1 ds) M) : FnG P w K mg base 1 f fd ["self"] (lift K F_Queue_listed) :=
  ok_fn Fn sc_Queue_listed len fun cdv A outer s H E gd hr => (dv_Queue_listed T cdv A outer s H E gd hr).elim fun t ht => ⟨t, _, ht, body⟩
theorem sc_Queue_take_all : FnScope ["self", "entries"] ["self"] (defScope s_Queue_take_all) := ⟨rfl, rfl, rfl, by decide +kernel, rfl, by decide +kernel, by decide +kernel⟩
abbrev W_Queue_take_all : WS := (wSeq (wAsg (wMeth "Queue" "listed" F_Queue_listed (wVar 0) wNil) (wgName 1)) (wSeq (wSetF "Queue" "_heap" (wVar 0) (wLstM wNil)) (wRet (wVar 1))))
theorem dv_Queue_take_all {f : Addr} (T : Txt K mg aKINDS) (h_Queue_listed : HasM P w K mg base 1 "Queue" "listed" "Queue.listed" s_Queue_listed ["self"] F_Queue_listed) (cdv : Value) (A : Around) (outer : List Env) (s : Shared) (H : Hp) (E : XK) (gd : A.guards = some []) (hr : Room 1 (A.deeper (envOfC "Queue.take_all" (defScope s_Queue_take_all) s.heap.objs.size f cdv))) :
    ∃ t, DSs (cxOf (L2.CX P w) P w K mg base ["self", "entries"] "Queue.take_all" (defScope s_Queue_take_all) f cdv A outer s H E) (lw E) (defBody s_Queue_take_all) t W_Queue_take_all := by
  exact ⟨_, (dss_cons (ds_set 1 sc_Queue_take_all.nd (de_m0 h_Queue_listed (hr.mono (by decide)) gd (de_var 0))) (dss_cons (ds_fld T.o_Queue (de_var 0) (de_lstM da_nil)) (dss_one (ds_ret (de_var 1)))))⟩
theorem ok_Queue_take_all {f : Addr} {fd : FuncData} (Fn : Fun K "take_all" "Queue.take_all" s_Queue_take_all f fd) (T : Txt K mg aKINDS) (h_Queue_listed : HasM P w K mg base 1 "Queue" "listed" "Queue.listed" s_Queue_listed ["self"] F_Queue_listed) (len : ∀ ds M Q E, F_Queue_take_all ds M Q E → ds.length = 1)
    (body : ∀ ds M Q R, F_Queue_take_all ds M Q R → W_Queue_take_all { nx := fun _ M' => Q .non M', rt := Q, xr := lx R } (startE 2 ds) M) : FnG P w K mg base 2 f fd ["self"] (lift K F_Queue_take_all) :=
  ok_fn Fn sc_Queue_take_all len fun cdv A outer s H E gd hr => (dv_Queue_take_all T h_Queue_listed cdv A outer s H E gd hr).elim fun t ht => ⟨t, _, ht, body⟩
theorem sc__law_heap : FnScope ["script", "cell", "cells", "stir"] ["script"] (defScope s__law_heap) := ⟨rfl, rfl, rfl, by decide +kernel, rfl, by decide +kernel, by decide +kernel⟩
abbrev W__law_heap : WS := (wSeq (wPar 2 3 (wCons (wLc (wiSeq (wSl (wVar 0) wNoP (wPart (wC (.int 60))))) (wgName 1) wYes (wCB fAbs (wCons (wVar 1) wNil)) [1]) (wCons (wC (.int 8011)) wNil))) (wSeq (wFor (wiSeq (wVar 2)) (wgName 1) (wAsg (wOp (fI (fun _ j => 0 < j) fun i j => .int (i % j)) (wCB fInt (wCons (wOp addD (wOp addD (wOp (fI CM fun i j => .int (i * j)) (wVar 3) (wC (.int 40692))) (wOp (fI (fun _ j => 0 < j) fun i j => .int (i % j)) (wCB fInt (wCons (wVar 1) wNil)) (wC (.int 2147483543)))) (wC (.int 31))) wNil)) (wC (.int 2147483647))) (wgName 3))) (wRet (wDrw (wLc (wiSeq (wVar 2)) (wgName 1) (wB (wOp fGe (wVar 1) (wOp (fI CPow fun i j => .int (i ^ j.toNat)) (wC (.int 10)) (wC (.int 18))))) (wVar 1) [1]) 3))))
theorem dv__law_heap {f : Addr} (T : Txt K mg aKINDS) (cdv : Value) (A : Around) (outer : List Env) (s : Shared) (H : Hp) (E : XK) (gd : A.guards = some []) (hr : Room 0 (A.deeper (envOfC "_law_heap" (defScope s__law_heap) s.heap.objs.size f cdv))) :
    ∃ t, DSs (cxOf (L2.CX P w) P w K mg base ["script", "cell", "cells", "stir"] "_law_heap" (defScope s__law_heap) f cdv A outer s H E) (lw E) (defBody s__law_heap) t W__law_heap := by
  exact ⟨_, (dss_cons (ds_par 2 3 rfl sc__law_heap.nd (da_cons (de_lc (own := [("cell", 1)]) rfl sc__law_heap.nd (di_seq (de_slice (de_var 0) do_none (do_some de_int))) (show BlkOk ["script", "cell", "cells", "stir"] (defScope s__law_heap) _ [("cell", 1)] from ⟨rfl, by decide +kernel, by decide +kernel, by decide +kernel, by decide +kernel⟩) (fun _ _ _ _ _ => (dg_name 1 sc__law_heap.nd)) (fun _ _ _ _ _ => dts_nil) (fun _ _ _ _ _ => (de_callB call_abs sim_abs T.z_abs (show bootBuiltins "abs" = some (.builtin "abs") from rfl) (da_cons (de_var 1) da_nil))) keep_name) (da_cons de_int da_nil))) (dss_cons (ds_for (passes_of rfl) rfl (di_seq (de_var 2)) (dg_name 1 sc__law_heap.nd) (dss_one (ds_set 3 sc__law_heap.nd (de_mod (de_callTy call_int1 sim_int T.z_int (show bootBuiltins "int" = some (.type "int") from rfl) (da_cons (de_add (de_add (de_mul (de_var 3) de_int) (de_mod (de_callTy call_int1 sim_int T.z_int (show bootBuiltins "int" = some (.type "int") from rfl) (da_cons (de_var 1) da_nil)) de_int)) de_int) da_nil)) de_int)))) (dss_one (ds_ret (de_drw 3 (de_lc (own := [("cell", 1)]) rfl sc__law_heap.nd (di_seq (de_var 2)) (show BlkOk ["script", "cell", "cells", "stir"] (defScope s__law_heap) _ [("cell", 1)] from ⟨rfl, by decide +kernel, by decide +kernel, by decide +kernel, by decide +kernel⟩) (fun _ _ _ _ _ => (dg_name 1 sc__law_heap.nd)) (fun _ _ _ _ _ => (dts_one (dt_cmp op_ge sim_ge (de_var 1) (de_pow de_int de_int)))) (fun _ _ _ _ _ => (de_var 1)) keep_name))))))⟩
theorem ok__law_heap {f : Addr} {fd : FuncData} (Fn : Fun K "_law_heap" "_law_heap" s__law_heap f fd) (T : Txt K mg aKINDS) (len : ∀ ds M Q E, F__law_heap ds M Q E → ds.length = 1)
    (body : ∀ ds M Q R, F__law_heap ds M Q R → W__law_heap { nx := fun _ M' => Q .non M', rt := Q, xr := lx R } (startE 4 ds) M) : FnG P w K mg base 1 f fd ["script"] (lift K F__law_heap) :=
  ok_fn Fn sc__law_heap len fun cdv A outer s H E gd hr => (dv__law_heap T cdv A outer s H E gd hr).elim fun t ht => ⟨t, _, ht, body⟩
theorem sc__law_draw : FnScope ["heap", "many", "rest"] ["heap", "many"] (defScope s__law_draw) := ⟨rfl, rfl, rfl, by decide +kernel, rfl, by decide +kernel, by decide +kernel⟩
theorem sc__law_pick : FnScope ["heap", "some"] ["heap", "some"] (defScope s__law_pick) := ⟨rfl, rfl, rfl, by decide +kernel, rfl, by decide +kernel, by decide +kernel⟩
abbrev W__law_pick : WS := (wRet (wOp ixD (wVar 1) (wCall F__law_draw (wCons (wVar 0) (wCons (wCB fLen (wCons (wVar 1) wNil)) wNil)))))
theorem dv__law_pick {f : Addr} (T : Txt K mg aKINDS) (h__law_draw : Has P w K mg base 1 "_law_draw" s__law_draw ["heap", "many"] F__law_draw) (cdv : Value) (A : Around) (outer : List Env) (s : Shared) (H : Hp) (E : XK) (gd : A.guards = some []) (hr : Room 1 (A.deeper (envOfC "_law_pick" (defScope s__law_pick) s.heap.objs.size f cdv))) :
    ∃ t, DSs (cxOf (L2.CX P w) P w K mg base ["heap", "some"] "_law_pick" (defScope s__law_pick) f cdv A outer s H E) (lw E) (defBody s__law_pick) t W__law_pick := by
  exact ⟨_, (dss_one (ds_ret (de_ix (de_var 1) (de_h h__law_draw (hr.mono (by decide)) gd (da_cons (de_var 0) (da_cons (de_callB call_lenA sim_len T.z_len (show bootBuiltins "len" = some (.builtin "len") from rfl) (da_cons (de_var 1) da_nil)) da_nil))))))⟩
theorem ok__law_pick {f : Addr} {fd : FuncData} (Fn : Fun K "_law_pick" "_law_pick" s__law_pick f fd) (T : Txt K mg aKINDS) (h__law_draw : Has P w K mg base 1 "_law_draw" s__law_draw ["heap", "many"] F__law_draw) (len : ∀ ds M Q E, F__law_pick ds M Q E → ds.length = 2)
    (body : ∀ ds M Q R, F__law_pick ds M Q R → W__law_pick { nx := fun _ M' => Q .non M', rt := Q, xr := lx R } (startE 2 ds) M) : FnG P w K mg base 2 f fd ["heap", "some"] (lift K F__law_pick) :=
  ok_fn Fn sc__law_pick len fun cdv A outer s H E gd hr => (dv__law_pick T h__law_draw cdv A outer s H E gd hr).elim fun t ht => ⟨t, _, ht, body⟩
theorem sc__law_entry : FnScope ["heap", "number"] ["heap"] (defScope s__law_entry) := ⟨rfl, rfl, rfl, by decide +kernel, rfl, by decide +kernel, by decide +kernel⟩
abbrev W__law_entry : WS := (wSeq (wAsg (wCall F__law_pick (wCons (wVar 0) (wCons (wLst (wCons (wCall F__law_draw (wCons (wVar 0) (wCons (wC (.int 4)) wNil))) (wCons (wCall F__law_draw (wCons (wVar 0) (wCons (wC (.int 4)) wNil))) (wCons (wNeg (wCall F__law_draw (wCons (wVar 0) (wCons (wC (.int 10)) wNil)))) (wCons (wCall F__law_draw (wCons (wVar 0) (wCons (wOp (fI CPow fun i j => .int (i ^ j.toNat)) (wC (.int 10)) (wC (.int 9))) wNil))) wNil))))) wNil))) (wgName 1)) (wRet (wTup (wCons (wVar 1) (wCons (wCall F__law_pick (wCons (wVar 0) (wCons (wLst (wCons (wC (.str "lot")) (wCons (wC (.str "pair")) wNil))) wNil))) (wCons (wCall F__law_draw (wCons (wVar 0) (wCons (wC (.int 3)) wNil))) wNil))))))
theorem dv__law_entry {f : Addr} (T : Txt K mg aKINDS) (h__law_draw : Has P w K mg base 1 "_law_draw" s__law_draw ["heap", "many"] F__law_draw) (h__law_pick : Has P w K mg base 2 "_law_pick" s__law_pick ["heap", "some"] F__law_pick) (cdv : Value) (A : Around) (outer : List Env) (s : Shared) (H : Hp) (E : XK) (gd : A.guards = some []) (hr : Room 2 (A.deeper (envOfC "_law_entry" (defScope s__law_entry) s.heap.objs.size f cdv))) :
    ∃ t, DSs (cxOf (L2.CX P w) P w K mg base ["heap", "number"] "_law_entry" (defScope s__law_entry) f cdv A outer s H E) (lw E) (defBody s__law_entry) t W__law_entry := by
  exact ⟨_, (dss_cons (ds_set 1 sc__law_entry.nd (de_h h__law_pick (hr.mono (by decide)) gd (da_cons (de_var 0) (da_cons (de_lst (da_cons (de_h h__law_draw (hr.mono (by decide)) gd (da_cons (de_var 0) (da_cons de_int da_nil))) (da_cons (de_h h__law_draw (hr.mono (by decide)) gd (da_cons (de_var 0) (da_cons de_int da_nil))) (da_cons (de_neg (de_h h__law_draw (hr.mono (by decide)) gd (da_cons (de_var 0) (da_cons de_int da_nil)))) (da_cons (de_h h__law_draw (hr.mono (by decide)) gd (da_cons (de_var 0) (da_cons (de_pow de_int de_int) da_nil))) da_nil))))) da_nil)))) (dss_one (ds_ret (de_tup (da_cons (de_var 1) (da_cons (de_h h__law_pick (hr.mono (by decide)) gd (da_cons (de_var 0) (da_cons (de_lst (da_cons de_str (da_cons de_str da_nil))) da_nil))) (da_cons (de_h h__law_draw (hr.mono (by decide)) gd (da_cons (de_var 0) (da_cons de_int da_nil))) da_nil)))))))⟩
theorem ok__law_entry {f : Addr} {fd : FuncData} (Fn : Fun K "_law_entry" "_law_entry" s__law_entry f fd) (T : Txt K mg aKINDS) (h__law_draw : Has P w K mg base 1 "_law_draw" s__law_draw ["heap", "many"] F__law_draw) (h__law_pick : Has P w K mg base 2 "_law_pick" s__law_pick ["heap", "some"] F__law_pick) (len : ∀ ds M Q E, F__law_entry ds M Q E → ds.length = 1)
    (body : ∀ ds M Q R, F__law_entry ds M Q R → W__law_entry { nx := fun _ M' => Q .non M', rt := Q, xr := lx R } (startE 2 ds) M) : FnG P w K mg base 3 f fd ["heap"] (lift K F__law_entry) :=
  ok_fn Fn sc__law_entry len fun cdv A outer s H E gd hr => (dv__law_entry T h__law_draw h__law_pick cdv A outer s H E gd hr).elim fun t ht => ⟨t, _, ht, body⟩
theorem sc__law_least : FnScope ["queue", "is_taken", "e"] ["queue", "is_taken"] (defScope s__law_least) := ⟨rfl, rfl, rfl, by decide +kernel, rfl, by decide +kernel, by decide +kernel⟩
abbrev W__law_least : WS := (wTryMix [(some 2, tab_Refused, fun a y dx => (wRet (wIf (wB (wOp (eqSc false) (wXf a y dx "word" (wVar 2)) (wC (.str "empty")))) (wC .non) (wTup (wCons (wC (.str "refused")) (wCons (wXf a y dx "word" (wVar 2)) wNil)))))), (none, tab_StoreError, fun a y dx => (wRet (wTup (wCons (wC (.str "refused")) (wCons (wC (.str "another error")) wNil)))))] (wRetX (wIfX (wB (wVar 1)) (wMethX "Queue" "take" F_Queue_take (wVar 0) wNil) (wMethX "Queue" "first" F_Queue_first (wVar 0) wNil))))
theorem dv__law_least {f : Addr} (T : Txt K mg aKINDS) (h_Queue_first : HasM P w K mg base 3 "Queue" "first" "Queue.first" s_Queue_first ["self"] F_Queue_first) (h_Queue_take : HasM P w K mg base 3 "Queue" "take" "Queue.take" s_Queue_take ["self"] F_Queue_take) (cdv : Value) (A : Around) (outer : List Env) (s : Shared) (H : Hp) (E : XK) (gd : A.guards = some []) (hr : Room 3 (A.deeper (envOfC "_law_least" (defScope s__law_least) s.heap.objs.size f cdv))) :
    ∃ t, DSs (cxOf (L2.CX P w) P w K mg base ["queue", "is_taken", "e"] "_law_least" (defScope s__law_least) f cdv A outer s H E) (lw E) (defBody s__law_least) t W__law_least := by
  obtain ⟨ch_Refused, mh_Refused, hh_Refused⟩ := T.hit_Refused
  obtain ⟨ch_StoreError, mh_StoreError, hh_StoreError⟩ := T.hit_StoreError
  exact ⟨_, (dss_one (ds_try_mix rfl rfl sc__law_least.nd takes_top (fun W' pn xe tk pw => (dss_one (ds_retX (dx_if (dt_val (de_var 1)) (dx_m0 h_Queue_take (hr.mono (by decide)) gd tk (de_var 0)) (dx_m0 h_Queue_first (hr.mono (by decide)) gd tk (de_var 0)))))) (.cons (i := some 2) (hit := tab_Refused) ⟨rfl, by decide, .inl mh_Refused⟩ ⟨rfl, rfl⟩ hh_Refused (fun a oe y C dx pn cx hz hf ca hy => by exact (dss_one (ds_ret (de_if (dt_eqS cx a oe pn (de_xf (T.ef y C ca (in_Refused hy)) (T.nf_word y C ca (in_Refused hy)) hz hf (de_var 2)) de_str) de_non (de_tup (da_cons de_str (da_cons (de_xf (T.ef y C ca (in_Refused hy)) (T.nf_word y C ca (in_Refused hy)) hz hf (de_var 2)) da_nil))))))) (.cons (i := none) (hit := tab_StoreError) ⟨rfl, by decide, .inl mh_StoreError⟩ True.intro hh_StoreError (fun a oe y C dx pn cx hz hf ca hy => by exact (dss_one (ds_ret (de_tup (da_cons de_str (da_cons de_str da_nil)))))) .nil))))⟩
theorem ok__law_least {f : Addr} {fd : FuncData} (Fn : Fun K "_law_least" "_law_least" s__law_least f fd) (T : Txt K mg aKINDS) (h_Queue_first : HasM P w K mg base 3 "Queue" "first" "Queue.first" s_Queue_first ["self"] F_Queue_first) (h_Queue_take : HasM P w K mg base 3 "Queue" "take" "Queue.take" s_Queue_take ["self"] F_Queue_take) (len : ∀ ds M Q E, F__law_least ds M Q E → ds.length = 2)
    (body : ∀ ds M Q R, F__law_least ds M Q R → W__law_least { nx := fun _ M' => Q .non M', rt := Q, xr := lx R } (startE 3 ds) M) : FnG P w K mg base 4 f fd ["queue", "is_taken"] (lift K F__law_least) :=
  ok_fn Fn sc__law_least len fun cdv A outer s H E gd hr => (dv__law_least T h_Queue_first h_Queue_take cdv A outer s H E gd hr).elim fun t ht => ⟨t, _, ht, body⟩
theorem sc__law_deed : FnScope ["heap", "queue", "due", "kind", "rest", "entry", "told"] ["heap", "queue", "due"] (defScope s__law_deed) := ⟨rfl, rfl, rfl, by decide +kernel, rfl, by decide +kernel, by decide +kernel⟩
abbrev W__law_deed : WS := (wSeq (wAsg (wCall F__law_draw (wCons (wVar 0) (wCons (wC (.int 9)) wNil))) (wgName 3)) (wSeq (wIfS (wB (wOp fLt (wVar 3) (wC (.int 4)))) (wSeq (wAsg (wCall F__law_entry (wCons (wVar 0) wNil)) (wgName 5)) (wSeq (wDrop (wApp (wVar 2) (wCons (wVar 5) wNil))) (wRet (wOp (fIsN false) (wMeth "Queue" "put" F_Queue_put (wVar 1) (wCons (wVar 5) wNil)) (wC .non))))) wNext) (wSeq (wAsg (wCB fSrt (wCons (wVar 2) wNil)) (wgName 4)) (wSeq (wIfS (wB (wOp fLt (wVar 3) (wC (.int 7)))) (wSeq (wAsg (wCall F__law_least (wCons (wVar 1) (wCons (wC (.bl true)) wNil))) (wgName 6)) (wSeq (wIfS (wB (wOp (eqV true) (wVar 4) (wLst wNil))) (wDrop (wRemD (wVar 2) (wOp ixD (wVar 4) (wC (.int 0))))) wNext) (wRet (wOp (eqV false) (wVar 6) (wIf (wB (wOp (eqV true) (wVar 4) (wLst wNil))) (wOp ixD (wVar 4) (wC (.int 0))) (wC .non)))))) wNext) (wSeq (wIfS (wB (wOp (eqV false) (wVar 3) (wC (.int 7)))) (wRet (wAndV (wOp (eqV false) (wCall F__law_least (wCons (wVar 1) (wCons (wC (.bl false)) wNil))) (wIf (wB (wOp (eqV true) (wVar 4) (wLst wNil))) (wOp ixD (wVar 4) (wC (.int 0))) (wC .non))) (wOp (eqV false) (wMeth "Queue" "listed" F_Queue_listed (wVar 1) wNil) (wCB fTuple (wCons (wVar 4) wNil))))) wNext) (wSeq (wIfS (wB (wOp fGt (wCall F__law_draw (wCons (wVar 0) (wCons (wC (.int 5)) wNil))) (wC (.int 0)))) (wRet (wOp (eqV false) (wMeth "Queue" "how_many" F_Queue_how_many (wVar 1) wNil) (wCB fLen (wCons (wVar 2) wNil)))) wNext) (wSeq (wWhile (wB (wOp (eqV true) (wVar 2) (wLst wNil))) (wDrop (wPop0 (wVar 2)))) (wRet (wOp (eqV false) (wMeth "Queue" "take_all" F_Queue_take_all (wVar 1) wNil) (wCB fTuple (wCons (wVar 4) wNil)))))))))))
theorem dv__law_deed {f : Addr} (T : Txt K mg aKINDS) (h_Queue_how_many : HasM P w K mg base 1 "Queue" "how_many" "Queue.how_many" s_Queue_how_many ["self"] F_Queue_how_many) (h_Queue_put : HasM P w K mg base 1 "Queue" "put" "Queue.put" s_Queue_put ["self", "entry"] F_Queue_put) (h_Queue_listed : HasM P w K mg base 1 "Queue" "listed" "Queue.listed" s_Queue_listed ["self"] F_Queue_listed) (h_Queue_take_all : HasM P w K mg base 2 "Queue" "take_all" "Queue.take_all" s_Queue_take_all ["self"] F_Queue_take_all) (h__law_draw : Has P w K mg base 1 "_law_draw" s__law_draw ["heap", "many"] F__law_draw) (h__law_entry : Has P w K mg base 3 "_law_entry" s__law_entry ["heap"] F__law_entry) (h__law_least : Has P w K mg base 4 "_law_least" s__law_least ["queue", "is_taken"] F__law_least) (cdv : Value) (A : Around) (outer : List Env) (s : Shared) (H : Hp) (E : XK) (gd : A.guards = some []) (hr : Room 4 (A.deeper (envOfC "_law_deed" (defScope s__law_deed) s.heap.objs.size f cdv))) :
    ∃ t, DSs (cxOf (L2.CX P w) P w K mg base ["heap", "queue", "due", "kind", "rest", "entry", "told"] "_law_deed" (defScope s__law_deed) f cdv A outer s H E) (lw E) (defBody s__law_deed) t W__law_deed := by
  exact ⟨_, (dss_cons (ds_set 3 sc__law_deed.nd (de_h h__law_draw (hr.mono (by decide)) gd (da_cons (de_var 0) (da_cons de_int da_nil)))) (dss_cons (ds_if (dt_cmp op_lt sim_lt (de_var 3) de_int) (dss_cons (ds_set 5 sc__law_deed.nd (de_h h__law_entry (hr.mono (by decide)) gd (da_cons (de_var 0) da_nil))) (dss_cons (ds_expr (de_append (de_var 2) (da_cons (de_var 5) da_nil))) (dss_one (ds_ret (de_cmp op_isN sim_isN (de_m h_Queue_put (hr.mono (by decide)) gd (de_var 1) (da_cons (de_var 5) da_nil)) de_non))))) dss_nil) (dss_cons (ds_set 4 sc__law_deed.nd (de_callB (cr_srt hr) sim_srt T.z_sorted (show bootBuiltins "sorted" = some (.builtin "sorted") from rfl) (da_cons (de_var 2) da_nil))) (dss_cons (ds_if (dt_cmp op_lt sim_lt (de_var 3) de_int) (dss_cons (ds_set 6 sc__law_deed.nd (de_h h__law_least (hr.mono (by decide)) gd (da_cons (de_var 1) (da_cons de_bl da_nil)))) (dss_cons (ds_if (dt_cmp (op_neV hr) sim_neV (de_var 4) (de_lst da_nil)) (dss_one (ds_expr (de_removeD hr (de_var 2) (de_ix (de_var 4) de_int)))) dss_nil) (dss_one (ds_ret (de_cmp (op_eqV hr) sim_eqV (de_var 6) (de_if (dt_cmp (op_neV hr) sim_neV (de_var 4) (de_lst da_nil)) (de_ix (de_var 4) de_int) de_non)))))) dss_nil) (dss_cons (ds_if (dt_cmp (op_eqV hr) sim_eqV (de_var 3) de_int) (dss_one (ds_ret (de_and (de_cmp (op_eqV hr) sim_eqV (de_h h__law_least (hr.mono (by decide)) gd (da_cons (de_var 1) (da_cons de_bl da_nil))) (de_if (dt_cmp (op_neV hr) sim_neV (de_var 4) (de_lst da_nil)) (de_ix (de_var 4) de_int) de_non)) (de_one (de_cmp (op_eqV hr) sim_eqV (de_m0 h_Queue_listed (hr.mono (by decide)) gd (de_var 1)) (de_callTy call_tuple_of sim_tuple T.z_tuple (show bootBuiltins "tuple" = some (.type "tuple") from rfl) (da_cons (de_var 4) da_nil))))))) dss_nil) (dss_cons (ds_if (dt_cmp op_gt sim_gt (de_h h__law_draw (hr.mono (by decide)) gd (da_cons (de_var 0) (da_cons de_int da_nil))) de_int) (dss_one (ds_ret (de_cmp (op_eqV hr) sim_eqV (de_m0 h_Queue_how_many (hr.mono (by decide)) gd (de_var 1)) (de_callB call_lenA sim_len T.z_len (show bootBuiltins "len" = some (.builtin "len") from rfl) (da_cons (de_var 2) da_nil))))) dss_nil) (dss_cons (ds_while (passes_of rfl) (dt_cmp (op_neV hr) sim_neV (de_var 2) (de_lst da_nil)) (dss_one (ds_expr (de_pop0 (de_var 2))))) (dss_one (ds_ret (de_cmp (op_eqV hr) sim_eqV (de_m0 h_Queue_take_all (hr.mono (by decide)) gd (de_var 1)) (de_callTy call_tuple_of sim_tuple T.z_tuple (show bootBuiltins "tuple" = some (.type "tuple") from rfl) (da_cons (de_var 4) da_nil))))))))))))⟩
theorem ok__law_deed {f : Addr} {fd : FuncData} (Fn : Fun K "_law_deed" "_law_deed" s__law_deed f fd) (T : Txt K mg aKINDS) (h_Queue_how_many : HasM P w K mg base 1 "Queue" "how_many" "Queue.how_many" s_Queue_how_many ["self"] F_Queue_how_many) (h_Queue_put : HasM P w K mg base 1 "Queue" "put" "Queue.put" s_Queue_put ["self", "entry"] F_Queue_put) (h_Queue_listed : HasM P w K mg base 1 "Queue" "listed" "Queue.listed" s_Queue_listed ["self"] F_Queue_listed) (h_Queue_take_all : HasM P w K mg base 2 "Queue" "take_all" "Queue.take_all" s_Queue_take_all ["self"] F_Queue_take_all) (h__law_draw : Has P w K mg base 1 "_law_draw" s__law_draw ["heap", "many"] F__law_draw) (h__law_entry : Has P w K mg base 3 "_law_entry" s__law_entry ["heap"] F__law_entry) (h__law_least : Has P w K mg base 4 "_law_least" s__law_least ["queue", "is_taken"] F__law_least) (len : ∀ ds M Q E, F__law_deed ds M Q E → ds.length = 3)
    (body : ∀ ds M Q R, F__law_deed ds M Q R → W__law_deed { nx := fun _ M' => Q .non M', rt := Q, xr := lx R } (startE 7 ds) M) : FnG P w K mg base 5 f fd ["heap", "queue", "due"] (lift K F__law_deed) :=
  ok_fn Fn sc__law_deed len fun cdv A outer s H E gd hr => (dv__law_deed T h_Queue_how_many h_Queue_put h_Queue_listed h_Queue_take_all h__law_draw h__law_entry h__law_least cdv A outer s H E gd hr).elim fun t ht => ⟨t, _, ht, body⟩
theorem sc_law : FnScope ["script", "heap", "start", "turn", "entry", "queue_due", "handed", "first", "second", "queue", "other", "least"] ["script"] (defScope s_law) := ⟨rfl, rfl, rfl, by decide +kernel, rfl, by decide +kernel, by decide +kernel⟩
abbrev W_law : WS := (wSeq (wAsg (wCall F__law_heap (wCons (wVar 0) wNil)) (wgName 1)) (wSeq (wAsg (wLc (wiRange1 (wCons (wCall F__law_draw (wCons (wVar 1) (wCons (wC (.int 11)) wNil))) wNil)) (wgName 3) wYes (wCall F__law_entry (wCons (wVar 1) wNil)) [3]) (wgName 2)) (wSeq (wPar3 6 7 8 (wCons (wLcM (wiSeq (wVar 2)) (wgName 4) wYes (wVar 4) [4]) (wCons (wLcM (wiSeq (wVar 2)) (wgName 4) wYes (wVar 4) [4]) (wCons (wLstM wNil) wNil)))) (wSeq (wPar 9 10 (wCons (wMakeK "Queue" 0 1 [0, 1] F_Queue___init__ wNil (wCons (wVar 6) wNil)) (wCons (wMake "Queue" F_Queue___init__ (wCons (wTup wNil) wNil)) wNil))) (wSeq (wIfS (wOr (wB (wOp (eqV true) (wMeth "Queue" "listed" F_Queue_listed (wMake "Queue" F_Queue___init__ (wCons (wCB fTuple (wCons (wVar 2) wNil)) wNil)) wNil) (wCB fTuple (wCons (wCB fSrt (wCons (wVar 2) wNil)) wNil)))) (wB (wOp (eqV true) (wMeth "Queue" "how_many" F_Queue_how_many (wMake "Queue" F_Queue___init__ (wCons (wCB fTuple (wCons (wVar 2) wNil)) wNil)) wNil) (wCB fLen (wCons (wVar 2) wNil))))) (wRet (wC (.bl false))) wNext) (wSeq (wIfS (wOr (wB (wOp (eqV true) (wCB fSrt (wCons (wVar 6) wNil)) (wCB fSrt (wCons (wVar 2) wNil)))) (wB (wOp (eqV true) (wVar 6) (wVar 2)))) (wRet (wC (.bl false))) wNext) (wSeq (wDrop (wApp (wVar 6) (wCons (wTup (wCons (wNeg (wOp (fI CPow fun i j => .int (i ^ j.toNat)) (wC (.int 10)) (wC (.int 10)))) (wCons (wC (.str "lot")) (wCons (wC (.int 0)) wNil)))) wNil))) (wSeq (wFor (wiRange1 (wCons (wOp addD (wC (.int 10)) (wCall F__law_draw (wCons (wVar 1) (wCons (wC (.int 31)) wNil)))) wNil)) (wgName 3) (wSeq (wIfS (wOr (wNot (wB (wCall F__law_deed (wCons (wVar 1) (wCons (wVar 9) (wCons (wVar 7) wNil)))))) (wNot (wB (wCall F__law_deed (wCons (wVar 1) (wCons (wVar 10) (wCons (wVar 8) wNil))))))) (wRet (wC (.bl false))) wNext) (wIfS (wOr (wB (wOp (eqV true) (wMeth "Queue" "how_many" F_Queue_how_many (wVar 9) wNil) (wCB fLen (wCons (wVar 7) wNil)))) (wOr (wB (wCB fIsi (wCons (wMeth "Queue" "how_many" F_Queue_how_many (wVar 9) wNil) (wCons (wC (.ty "bool")) wNil)))) (wNot (wB (wCB fIsi (wCons (wMeth "Queue" "listed" F_Queue_listed (wVar 9) wNil) (wCons (wC (.ty "tuple")) wNil))))))) (wRet (wC (.bl false))) wNext))) (wSeq (wAsg (wCall F__law_entry (wCons (wVar 1) wNil)) (wgName 4)) (wSeq (wIfS (wOr (wB (wOp (fIsN true) (wMethK "Queue" "put" 0 1 [0, 1] F_Queue_put (wVar 10) wNil (wCons (wVar 4) wNil)) (wC .non))) (wB (wOp (eqV true) (wMeth "Queue" "how_many" F_Queue_how_many (wVar 10) wNil) (wOp addD (wCB fLen (wCons (wVar 8) wNil)) (wC (.int 1)))))) (wRet (wC (.bl false))) wNext) (wSeq (wFor (wiSeq (wLst (wCons (wLst (wCons (wVar 9) (wCons (wVar 7) wNil))) (wCons (wLst (wCons (wVar 10) (wCons (wOp addD (wVar 8) (wLst (wCons (wVar 4) wNil))) wNil))) wNil)))) (wgName 5) (wSeq (wFor (wiSeq (wCB fSrt (wCons (wOp ixD (wVar 5) (wC (.int 1))) wNil))) (wgName 11) (wIfS (wOr (wB (wOp (eqV true) (wCall F__law_least (wCons (wOp ixD (wVar 5) (wC (.int 0))) (wCons (wC (.bl false)) wNil))) (wVar 11))) (wB (wOp (eqV true) (wCall F__law_least (wCons (wOp ixD (wVar 5) (wC (.int 0))) (wCons (wC (.bl true)) wNil))) (wVar 11)))) (wRet (wC (.bl false))) wNext)) (wIfS (wOr (wB (wOp (fIsN true) (wCall F__law_least (wCons (wOp ixD (wVar 5) (wC (.int 0))) (wCons (wC (.bl true)) wNil))) (wC .non))) (wB (wOp (fIsN true) (wCall F__law_least (wCons (wOp ixD (wVar 5) (wC (.int 0))) (wCons (wC (.bl false)) wNil))) (wC .non)))) (wRet (wC (.bl false))) wNext))) (wRet (wAndV (wOp (eqV false) (wMeth "Queue" "take_all" F_Queue_take_all (wVar 9) wNil) (wTup wNil)) (wAndV (wOp (eqV false) (wMeth "Queue" "listed" F_Queue_listed (wVar 9) wNil) (wTup wNil)) (wOp (eqV false) (wMeth "Queue" "how_many" F_Queue_how_many (wVar 9) wNil) (wC (.int 0)))))))))))))))))
theorem dv_law {f : Addr} (T : Txt K mg aKINDS) (h_Queue___init__ : HasC P w K mg base 1 "Queue" "Queue.__init__" s_Queue___init__ ["self", "entries"] F_Queue___init__) (h_Queue_how_many : HasM P w K mg base 1 "Queue" "how_many" "Queue.how_many" s_Queue_how_many ["self"] F_Queue_how_many) (h_Queue_put : HasM P w K mg base 1 "Queue" "put" "Queue.put" s_Queue_put ["self", "entry"] F_Queue_put) (h_Queue_listed : HasM P w K mg base 1 "Queue" "listed" "Queue.listed" s_Queue_listed ["self"] F_Queue_listed) (h_Queue_take_all : HasM P w K mg base 2 "Queue" "take_all" "Queue.take_all" s_Queue_take_all ["self"] F_Queue_take_all) (h__law_heap : Has P w K mg base 1 "_law_heap" s__law_heap ["script"] F__law_heap) (h__law_draw : Has P w K mg base 1 "_law_draw" s__law_draw ["heap", "many"] F__law_draw) (h__law_entry : Has P w K mg base 3 "_law_entry" s__law_entry ["heap"] F__law_entry) (h__law_least : Has P w K mg base 4 "_law_least" s__law_least ["queue", "is_taken"] F__law_least) (h__law_deed : Has P w K mg base 5 "_law_deed" s__law_deed ["heap", "queue", "due"] F__law_deed) (cdv : Value) (A : Around) (outer : List Env) (s : Shared) (H : Hp) (E : XK) (gd : A.guards = some []) (hr : Room 5 (A.deeper (envOfC "law" (defScope s_law) s.heap.objs.size f cdv))) :
    ∃ t, DSs (cxOf (L2.CX P w) P w K mg base ["script", "heap", "start", "turn", "entry", "queue_due", "handed", "first", "second", "queue", "other", "least"] "law" (defScope s_law) f cdv A outer s H E) (lw E) (defBody s_law) t W_law := by
  exact ⟨_, (dss_cons (ds_set 1 sc_law.nd (de_h h__law_heap (hr.mono (by decide)) gd (da_cons (de_var 0) da_nil))) (dss_cons (ds_setLc 2 (own := [("turn", 3)]) rfl sc_law.nd (di_range1 T.z_range (da_cons (de_h h__law_draw (hr.mono (by decide)) gd (da_cons (de_var 1) (da_cons de_int da_nil))) da_nil)) (show BlkOk ["script", "heap", "start", "turn", "entry", "queue_due", "handed", "first", "second", "queue", "other", "least"] (defScope s_law) _ [("turn", 3)] from ⟨rfl, by decide +kernel, by decide +kernel, by decide +kernel, by decide +kernel⟩) (fun _ _ _ _ _ => (dg_name 3 sc_law.nd)) (fun _ _ _ _ _ => dts_nil) (fun _ _ _ _ _ => (de_h h__law_entry (hr.mono (by decide)) gd (da_cons (de_var 1) da_nil))) keep_name (by rfl)) (dss_cons (ds_par3 6 7 8 rfl sc_law.nd (da_cons (de_lcM (own := [("entry", 4)]) rfl sc_law.nd (di_seq (de_var 2)) (show BlkOk ["script", "heap", "start", "turn", "entry", "queue_due", "handed", "first", "second", "queue", "other", "least"] (defScope s_law) _ [("entry", 4)] from ⟨rfl, by decide +kernel, by decide +kernel, by decide +kernel, by decide +kernel⟩) (fun _ _ _ _ _ => (dg_name 4 sc_law.nd)) (fun _ _ _ _ _ => dts_nil) (fun _ _ _ _ _ => (de_var 4)) keep_name) (da_cons (de_lcM (own := [("entry", 4)]) rfl sc_law.nd (di_seq (de_var 2)) (show BlkOk ["script", "heap", "start", "turn", "entry", "queue_due", "handed", "first", "second", "queue", "other", "least"] (defScope s_law) _ [("entry", 4)] from ⟨rfl, by decide +kernel, by decide +kernel, by decide +kernel, by decide +kernel⟩) (fun _ _ _ _ _ => (dg_name 4 sc_law.nd)) (fun _ _ _ _ _ => dts_nil) (fun _ _ _ _ _ => (de_var 4)) keep_name) (da_cons (de_lstM da_nil) da_nil)))) (dss_cons (ds_par 9 10 rfl sc_law.nd (da_cons (de_nk0 (ks := ["entries"]) (idx := [0, 1]) h_Queue___init__ (hr.mono (by decide)) gd (fun _ _ _ _ _ _ us ws h1 h2 => match us, ws, h1, h2 with | [_], [_], _, _ => rfl) (dk_cons (de_var 6) dk_nil)) (da_cons (de_n h_Queue___init__ (hr.mono (by decide)) gd (da_cons (de_tup da_nil) da_nil)) da_nil))) (dss_cons (ds_if (DW.dt (dw_or (dt_cmp (op_neV hr) sim_neV (de_m0 h_Queue_listed (hr.mono (by decide)) gd (de_n h_Queue___init__ (hr.mono (by decide)) gd (da_cons (de_callTy call_tuple_of sim_tuple T.z_tuple (show bootBuiltins "tuple" = some (.type "tuple") from rfl) (da_cons (de_var 2) da_nil)) da_nil))) (de_callTy call_tuple_of sim_tuple T.z_tuple (show bootBuiltins "tuple" = some (.type "tuple") from rfl) (da_cons (de_callB (cr_srt hr) sim_srt T.z_sorted (show bootBuiltins "sorted" = some (.builtin "sorted") from rfl) (da_cons (de_var 2) da_nil)) da_nil))) (dw_or1 (dt_cmp (op_neV hr) sim_neV (de_m0 h_Queue_how_many (hr.mono (by decide)) gd (de_n h_Queue___init__ (hr.mono (by decide)) gd (da_cons (de_callTy call_tuple_of sim_tuple T.z_tuple (show bootBuiltins "tuple" = some (.type "tuple") from rfl) (da_cons (de_var 2) da_nil)) da_nil))) (de_callB call_lenA sim_len T.z_len (show bootBuiltins "len" = some (.builtin "len") from rfl) (da_cons (de_var 2) da_nil)))))) (dss_one (ds_ret de_bl)) dss_nil) (dss_cons (ds_if (DW.dt (dw_or (dt_cmp (op_neV hr) sim_neV (de_callB (cr_srt hr) sim_srt T.z_sorted (show bootBuiltins "sorted" = some (.builtin "sorted") from rfl) (da_cons (de_var 6) da_nil)) (de_callB (cr_srt hr) sim_srt T.z_sorted (show bootBuiltins "sorted" = some (.builtin "sorted") from rfl) (da_cons (de_var 2) da_nil))) (dw_or1 (dt_cmp (op_neV hr) sim_neV (de_var 6) (de_var 2))))) (dss_one (ds_ret de_bl)) dss_nil) (dss_cons (ds_expr (de_append (de_var 6) (da_cons (de_tup (da_cons (de_neg (de_pow de_int de_int)) (da_cons de_str (da_cons de_int da_nil)))) da_nil))) (dss_cons (ds_for (passes_of rfl) rfl (di_range1 T.z_range (da_cons (de_add de_int (de_h h__law_draw (hr.mono (by decide)) gd (da_cons (de_var 1) (da_cons de_int da_nil)))) da_nil)) (dg_name 3 sc_law.nd) (dss_cons (ds_if (DW.dt (dw_or (dt_not (dt_val (de_h h__law_deed (hr.mono (by decide)) gd (da_cons (de_var 1) (da_cons (de_var 9) (da_cons (de_var 7) da_nil)))))) (dw_or1 (dt_not (dt_val (de_h h__law_deed (hr.mono (by decide)) gd (da_cons (de_var 1) (da_cons (de_var 10) (da_cons (de_var 8) da_nil))))))))) (dss_one (ds_ret de_bl)) dss_nil) (dss_one (ds_if (DW.dt (dw_or (dt_cmp (op_neV hr) sim_neV (de_m0 h_Queue_how_many (hr.mono (by decide)) gd (de_var 9)) (de_callB call_lenA sim_len T.z_len (show bootBuiltins "len" = some (.builtin "len") from rfl) (da_cons (de_var 7) da_nil))) (dw_or (dt_val (de_callB call_isi sim_isi T.z_isinstance (show bootBuiltins "isinstance" = some (.builtin "isinstance") from rfl) (da_cons (de_m0 h_Queue_how_many (hr.mono (by decide)) gd (de_var 9)) (da_cons (de_bty T.z_bool rfl) da_nil)))) (dw_or1 (dt_not (dt_val (de_callB call_isi sim_isi T.z_isinstance (show bootBuiltins "isinstance" = some (.builtin "isinstance") from rfl) (da_cons (de_m0 h_Queue_listed (hr.mono (by decide)) gd (de_var 9)) (da_cons (de_bty T.z_tuple rfl) da_nil))))))))) (dss_one (ds_ret de_bl)) dss_nil)))) (dss_cons (ds_set 4 sc_law.nd (de_h h__law_entry (hr.mono (by decide)) gd (da_cons (de_var 1) da_nil))) (dss_cons (ds_if (DW.dt (dw_or (dt_cmp op_notN sim_notN (de_mk0 (ks := ["entry"]) (idx := [0, 1]) h_Queue_put (hr.mono (by decide)) gd (fun _ _ _ _ _ _ us ws h1 h2 => match us, ws, h1, h2 with | [_], [_], _, _ => rfl) (de_var 10) (dk_cons (de_var 4) dk_nil)) de_non) (dw_or1 (dt_cmp (op_neV hr) sim_neV (de_m0 h_Queue_how_many (hr.mono (by decide)) gd (de_var 10)) (de_add (de_callB call_lenA sim_len T.z_len (show bootBuiltins "len" = some (.builtin "len") from rfl) (da_cons (de_var 8) da_nil)) de_int))))) (dss_one (ds_ret de_bl)) dss_nil) (dss_cons (ds_for (passes_of rfl) rfl (di_seq (de_lst (da_cons (de_lst (da_cons (de_var 9) (da_cons (de_var 7) da_nil))) (da_cons (de_lst (da_cons (de_var 10) (da_cons (de_add (de_var 8) (de_lst (da_cons (de_var 4) da_nil))) da_nil))) da_nil)))) (dg_name 5 sc_law.nd) (dss_cons (ds_for (passes_of rfl) rfl (di_seq (de_callB (cr_srt hr) sim_srt T.z_sorted (show bootBuiltins "sorted" = some (.builtin "sorted") from rfl) (da_cons (de_ix (de_var 5) de_int) da_nil))) (dg_name 11 sc_law.nd) (dss_one (ds_if (DW.dt (dw_or (dt_cmp (op_neV hr) sim_neV (de_h h__law_least (hr.mono (by decide)) gd (da_cons (de_ix (de_var 5) de_int) (da_cons de_bl da_nil))) (de_var 11)) (dw_or1 (dt_cmp (op_neV hr) sim_neV (de_h h__law_least (hr.mono (by decide)) gd (da_cons (de_ix (de_var 5) de_int) (da_cons de_bl da_nil))) (de_var 11))))) (dss_one (ds_ret de_bl)) dss_nil))) (dss_one (ds_if (DW.dt (dw_or (dt_cmp op_notN sim_notN (de_h h__law_least (hr.mono (by decide)) gd (da_cons (de_ix (de_var 5) de_int) (da_cons de_bl da_nil))) de_non) (dw_or1 (dt_cmp op_notN sim_notN (de_h h__law_least (hr.mono (by decide)) gd (da_cons (de_ix (de_var 5) de_int) (da_cons de_bl da_nil))) de_non)))) (dss_one (ds_ret de_bl)) dss_nil)))) (dss_one (ds_ret (de_and (de_cmp (op_eqV hr) sim_eqV (de_m0 h_Queue_take_all (hr.mono (by decide)) gd (de_var 9)) (de_tup da_nil)) (de_and (de_cmp (op_eqV hr) sim_eqV (de_m0 h_Queue_listed (hr.mono (by decide)) gd (de_var 9)) (de_tup da_nil)) (de_one (de_cmp (op_eqV hr) sim_eqV (de_m0 h_Queue_how_many (hr.mono (by decide)) gd (de_var 9)) de_int)))))))))))))))))⟩
theorem ok_law {f : Addr} {fd : FuncData} (Fn : Fun K "law" "law" s_law f fd) (T : Txt K mg aKINDS) (h_Queue___init__ : HasC P w K mg base 1 "Queue" "Queue.__init__" s_Queue___init__ ["self", "entries"] F_Queue___init__) (h_Queue_how_many : HasM P w K mg base 1 "Queue" "how_many" "Queue.how_many" s_Queue_how_many ["self"] F_Queue_how_many) (h_Queue_put : HasM P w K mg base 1 "Queue" "put" "Queue.put" s_Queue_put ["self", "entry"] F_Queue_put) (h_Queue_listed : HasM P w K mg base 1 "Queue" "listed" "Queue.listed" s_Queue_listed ["self"] F_Queue_listed) (h_Queue_take_all : HasM P w K mg base 2 "Queue" "take_all" "Queue.take_all" s_Queue_take_all ["self"] F_Queue_take_all) (h__law_heap : Has P w K mg base 1 "_law_heap" s__law_heap ["script"] F__law_heap) (h__law_draw : Has P w K mg base 1 "_law_draw" s__law_draw ["heap", "many"] F__law_draw) (h__law_entry : Has P w K mg base 3 "_law_entry" s__law_entry ["heap"] F__law_entry) (h__law_least : Has P w K mg base 4 "_law_least" s__law_least ["queue", "is_taken"] F__law_least) (h__law_deed : Has P w K mg base 5 "_law_deed" s__law_deed ["heap", "queue", "due"] F__law_deed) (len : ∀ ds M Q E, F_law ds M Q E → ds.length = 1)
    (body : ∀ ds M Q R, F_law ds M Q R → W_law { nx := fun _ M' => Q .non M', rt := Q, xr := lx R } (startE 12 ds) M) : FnG P w K mg base 6 f fd ["script"] (lift K F_law) :=
  ok_fn Fn sc_law len fun cdv A outer s H E gd hr => (dv_law T h_Queue___init__ h_Queue_how_many h_Queue_put h_Queue_listed h_Queue_take_all h__law_heap h__law_draw h__law_entry h__law_least h__law_deed cdv A outer s H E gd hr).elim fun t ht => ⟨t, _, ht, body⟩
theorem ok__law_draw {f : Addr} {fd : FuncData} (Fn : Fun K "_law_draw" "_law_draw" s__law_draw f fd) (T : Txt K mg aKINDS) : FnG P w K mg base 1 f fd ["heap", "many"] (lift K drawF) := by
  refine fn_g Fn sc__law_draw (fun vs H Q E h => ?_) (fun cdv A outer s H vs Q E gd hr h => ?_)
  · obtain ⟨Z, ds, M, Qd, Rd, _, r, ⟨a, a0, n, rfl, _⟩, _⟩ := h
    exact r.len
  · obtain ⟨Z, ds, M, Qd, Rd, sat, r, ⟨a, a0, n, rfl, hm, hn, hn2, q⟩, kq, _⟩ := h
    cases r with
    | cons r1 r2 =>
    cases r2 with
    | cons r2 r3 =>
    cases r3
    cases r1
    cases r2
    obtain ⟨m0, cs, st, ea, e0, s0, s1, cl, cn⟩ := sat.cell a _ hm
    have d0 : Dr H a a0 cs st H := ⟨fun _ _ _ _ e => e, ea, e0, s0, s1, cl, cn⟩
    have fin : ∀ (H' : Hp) (cs' : List Int) (st' k : Int), Dr H a a0 cs' st' H' → 0 ≤ k → k < n → Q (.int k) H' := fun H' cs' st' k d h1 h2 => kq _ _ H' M (Go.drawn sat hm d.keep d.ok) (.int k) (q k h1 h2)
    have last : ∀ cs' : List Int, cs' ≠ [] → ∃ cs0 c, cs' = cs0 ++ [c] := fun cs' h => ⟨_, _, (List.dropLast_concat_getLast h).symm⟩
    have tail : ∃ t2, PSs (cxOf (L2.CX P w) P w K mg base ["heap", "many", "rest"] "_law_draw" (defScope s__law_draw) f cdv A outer s H E) (defBody s__law_draw).tail t2 ∧
        ∀ (H2 : Hp) (cs' : List Int), Dr H a a0 cs' st H2 → t2 { nx := fun _ J => Q .non J, rt := Q } [some (.ref a), some (.int n), none] H2 := by
      refine ⟨_, pss_cons (ps_if (dt_cmp (op_neG hr) sim_ne (de_ix (de_var 0) de_int) (de_lst da_nil)).pe
            (pss_cons (ps_set (i := 2) sc__law_draw.nd rfl (Or.inl rfl) (pe_bm0 PySem.F.plainAttrs_list PySem.F.slot_list_pop PySem.F.type_list_pop mt_pop (de_ix (de_var 0) de_int).pe))
              (pss_cons (ps_expr (pe_bm PySem.F.plainAttrs_list PySem.F.slot_list_append PySem.F.type_list_append mt_append (de_ix (de_var 0) de_int).pe (da_cons (de_fdiv (de_var 2) (de_var 1)) da_nil).pe))
                (pss_one (ps_ret (de_mod (de_callTy call_int1 sim_int T.z_int (by rfl) (da_cons (de_var 2) da_nil)) (de_var 1)).pe)))) pss_nil)
          (pss_cons (ds_asg (E := lw E) (de_mod (de_callTy call_int1 sim_int T.z_int (by rfl) (da_cons (de_add (de_mul (de_ix (de_var 0) de_int) de_int) de_int) da_nil)) de_int) (dg_sub (de_var 0) de_int)).pe
            (pss_one (ps_ret (de_mod (de_callTy call_int1 sim_int T.z_int (by rfl) (da_cons (de_fdiv (de_ix (de_var 0) de_int) de_int) da_nil)) (de_var 1)).pe))), fun H2 cs' d2 => ?_⟩
      refine ⟨_, rfl, ix_l d2.ha rfl ⟨Nat.zero_le _, fun p hp => ?_⟩⟩
      have d3 := d2.new (o := .lst []) hp
      refine ne_nil d3.h0 upd_same ⟨_, rfl, ?_⟩
      refine ite2 (fun hc => ?_) (fun hc => ?_)
      · obtain ⟨cs0, c, rfl⟩ := last cs' (of_decide_eq_true hc)
        have c0 : 0 ≤ c := d3.pos c (List.mem_append_right _ (List.mem_singleton.mpr rfl))
        have d4 := d3.put (cs' := cs0) (by have z := d3.len; rw [List.length_append] at z; omega) (fun x hx => d3.pos x (List.mem_append_left _ hx))
        have l4 : cs0.length < 100 := by
          have z := d3.len
          rw [List.length_append, List.length_singleton] at z
          omega
        refine ⟨_, rfl, ix_l d3.ha rfl ⟨.inl ⟨rfl, _, SqL.of d3.h0⟩, pop_last d3.h0 ?_⟩⟩
        refine ⟨_, rfl, ix_l d4.ha rfl ⟨.inl ⟨rfl, _, SqL.of d4.h0⟩, _, rfl, _, rfl, _, _, rfl, rfl, ⟨hn, hn2⟩, a0, _, _, rfl, rfl, d4.h0, by rw [List.length_map]; exact Nat.lt_of_lt_of_le l4 (by decide), ?_⟩⟩
        have d5 := d4.put (cs' := cs0 ++ [c / n]) (by rw [List.length_append, List.length_singleton]; omega) (fun x hx => by
          rcases List.mem_append.mp hx with z | z
          · exact d4.pos x z
          · rw [List.mem_singleton.mp z]
            exact Int.ediv_nonneg c0 (by omega))
        rw [List.map_append] at d5
        refine ⟨_, rfl, .inl ⟨_, rfl, _, rfl, _, _, rfl, rfl, hn, ?_⟩⟩
        exact fin _ _ _ _ d5 (Int.emod_nonneg _ (by omega)) (Int.emod_lt_of_pos _ hn)
      · refine ⟨_, rfl, ix_l d3.ha rfl ⟨_, _, rfl, rfl, .inl (.inr ⟨by decide, by decide⟩), .inl ⟨_, _, rfl, rfl, .inl ⟨_, rfl, _, _, rfl, rfl, (by show (0 : Int) < 2147483647; decide), _, rfl, a, _, _, _, rfl, rfl, d3.ha, rfl, ?_⟩⟩⟩⟩
        have d5 := d3.stir (s' := (st * 48271 + 11) % 2147483647) (Int.emod_nonneg _ (by decide)) (Int.lt_trans (Int.emod_lt_of_pos _ (by decide)) (by decide))
        exact ⟨_, rfl, ix_l d5.ha rfl ⟨_, _, rfl, rfl, ⟨(by decide), (by decide)⟩, .inl ⟨_, rfl, _, rfl, _, _, rfl, rfl, hn, fin _ _ _ _ d5 (Int.emod_nonneg _ (by omega)) (Int.emod_lt_of_pos _ hn)⟩⟩⟩
    obtain ⟨t2, ht2, out⟩ := tail
    refine ⟨_, pss_cons (ps_while (passes_of rfl) (DW.dt (dw_and (dt_cmp (op_neG hr) sim_ne (de_ix (de_var 0) de_int) (de_lst da_nil)) (dw_and1 (dt_cmp (op_eqG hr) sim_eq (de_ix (de_ix (de_var 0) de_int) (de_neg de_int)) de_int)))).pe
        (pss_one (ps_expr (pe_bm0 PySem.F.plainAttrs_list PySem.F.slot_list_pop PySem.F.type_list_pop mt_pop (de_ix (de_var 0) de_int).pe)))) ht2, ?_⟩
    refine ⟨fun m σ' H' => σ' = [some (.ref a), some (.int n), none] ∧ ∃ cs' : List Int, Dr H a a0 cs' st H' ∧ m = cs'.length, ⟨_, rfl, cs, d0, rfl⟩, ?_⟩
    rintro m σ' H' ⟨rfl, cs', d, rfl⟩
    refine ⟨_, rfl, ix_l d.ha rfl ⟨Nat.zero_le _, fun p hp => ?_⟩⟩
    have d1 := d.new (o := .lst []) hp
    refine ne_nil d1.h0 upd_same ⟨_, rfl, ?_⟩
    refine ite2 (fun hc => ?_) (fun hc => ?_)
    · obtain ⟨cs0, c, rfl⟩ := last cs' (of_decide_eq_true hc)
      refine ⟨_, rfl, ix_l d1.ha rfl ⟨_, rfl, ix_l d1.h0 at_last ?_⟩⟩
      unfold tC
      refine eq_int ⟨_, rfl, ?_⟩
      refine ite2 (fun h0 => ?_) (fun h0 => ?_)
      · have dp := d1.put (cs' := cs0) (by have z := d1.len; rw [List.length_append] at z; omega) (fun x hx => d1.pos x (List.mem_append_left _ hx))
        refine ⟨fun σ2 H2 => σ2 = [some (.ref a), some (.int n), none] ∧ Dr H a a0 cs0 st H2, fun σ2 H2 ⟨e, d2⟩ => ⟨cs0.length, by rw [List.length_append, List.length_singleton]; omega, e, cs0, d2, rfl⟩, ?_⟩
        exact ⟨_, rfl, ix_l d1.ha rfl ⟨.inl ⟨rfl, _, SqL.of d1.h0⟩, pop_last d1.h0 ⟨rfl, dp⟩⟩⟩
      · exact out _ _ d1
    · exact out _ _ d1
end
end K31
namespace K31
open PySem L2 L3
theorem wp__law_pick : ∀ ds M Q R, pickF ds M Q R → W__law_pick { nx := fun _ M' => Q .non M', rt := Q, xr := lx R } (startE 2 ds) M := by
  rintro ds M Q R ⟨a, a0, d, es, rfl, hm, hs, h0, h1, q⟩
  unfold W__law_pick
  simp (disch := first | assumption | decide) only [wSeq, wNext, wAsg, wgName, wIfS, wB, wOp, wVar, wC, wCall, wCallK, wCons, wNil, wRet, wRetN, wDrop, wTup, wLst, wIf, wAnd, wOr, wNot, wAndV, wOrV, wNotV, wNeg, wChain, fI, fI0, addD, fLt, fLe, fGt, fGe, fIsB, wCB, fAbs, f2I, fInt, fIsq, wPar, wPar3, permD, startE, List.map_cons, List.map_nil, List.cons_append, List.nil_append, List.append_nil, List.length_cons, List.length_nil, List.replicate, List.getElem?_cons_zero, List.getElem?_cons_succ, List.set_cons_zero, List.set_cons_succ, List.getD_cons_zero, List.getD_cons_succ, Nat.reduceAdd, Nat.reduceSub, Nat.zero_add, true_and, and_true, Bool.not_true, Bool.not_false, if_true, if_false, Bool.false_eq_true, reduceIte, decide_eq_true_eq, Bool.not_eq_true', decide_eq_false_iff_not, eqV_int, eqV_str, eqV_bl, decide_true, reduceCtorEq, not_true_eq_false, not_false_eq_true, Bool.not_eq_true, List.not_mem_nil, false_implies, implies_true, Int.reduceNeg, Int.reduceToNat, Int.reducePow, Int.reduceMul, Int.reduceAdd, draw_i, ix_t0, ix_t1, ix_t2, ix_t3, ix_m3, ix_m4, sn_ball_box, sn_cell_box, sn_cell_ball, sn_ball_cell, sn_box_ball, sn_box_cell, decide_false]
  have fl : ∀ Q' : KD, Q' (.int (es.length : Int)) M → fLen [d] M Q' := fun Q' h => by
    cases d <;> first | exact ⟨es, hs, h⟩ | cases hs
  refine fl _ ?_
  have hl : (0 : Int) < (es.length : Int) := by omega
  have hg : ((es.length : Nat) : Int).natAbs.log2 < 9000 := by
    rw [Int.natAbs_natCast]
    have := Nat.log2_le_self es.length
    have h2 : es.length.log2 < 20 := (Nat.log2_lt (by omega)).mpr (by omega)
    omega
  refine ⟨a, a0, _, rfl, hm, hl, hg, fun k k0 k1 => ?_⟩
  obtain ⟨i, rfl⟩ := Int.eq_ofNat_of_zero_le k0
  have hi : i < es.length := by omega
  have e : atI es (i : Int) = some es[i] := by
    unfold atI ixN
    simp [hi]
  have fx : ∀ Q' : KD, Q' es[i] M → ixD d (.int (i : Int)) M Q' := fun Q' h => by
    cases d <;> first | exact ⟨es, _, hs, e, h⟩ | cases hs
  exact fx _ (q _ (List.getElem_mem hi))
theorem heap_cells {Q : KD} {M : Mp} {sc : Option D} {v2 v3 : Option D} : ∀ (ns acc : List Int), acc.length + ns.length ≤ 63 → (∀ c ∈ acc, 0 ≤ c) → (∀ cs : List Int, cs.length ≤ 63 → (∀ c ∈ cs, 0 ≤ c) → Q (.lst (cs.map .int)) M) →
    wLcL (wgName 1) wYes (wCB fAbs (wCons (wVar 1) wNil)) AnyM [sc, none, v2, v3] (ns.map .int) (acc.map .int) M Q
  | [], acc, hl, hp, q => ⟨True.intro, q acc (by simpa using hl) hp⟩
  | n :: ns, acc, hl, hp, q => by
    refine ⟨True.intro, ?_, ?_⟩
    · rw [List.length_map]
      rw [List.length_cons] at hl
      exact Nat.lt_of_lt_of_le (by omega : acc.length < 63) (by decide)
    · have e : ∀ c : Int, acc.map D.int ++ [.int c] = (acc ++ [c]).map .int := fun c => by rw [List.map_append]; rfl
      simp (disch := first | assumption | decide) only [wSeq, wNext, wAsg, wgName, wIfS, wB, wOp, wVar, wC, wCall, wCallK, wCons, wNil, wRet, wRetN, wDrop, wTup, wLst, wIf, wAnd, wOr, wNot, wAndV, wOrV, wNotV, wNeg, wChain, fI, fI0, addD, fLt, fLe, fGt, fGe, fIsB, wCB, fAbs, f2I, fInt, fIsq, wPar, wPar3, permD, startE, List.map_cons, List.map_nil, List.cons_append, List.nil_append, List.append_nil, List.length_cons, List.length_nil, List.replicate, List.getElem?_cons_zero, List.getElem?_cons_succ, List.set_cons_zero, List.set_cons_succ, List.getD_cons_zero, List.getD_cons_succ, Nat.reduceAdd, Nat.reduceSub, Nat.zero_add, true_and, and_true, Bool.not_true, Bool.not_false, if_true, if_false, Bool.false_eq_true, reduceIte, decide_eq_true_eq, Bool.not_eq_true', decide_eq_false_iff_not, eqV_int, eqV_str, eqV_bl, decide_true, reduceCtorEq, not_true_eq_false, not_false_eq_true, Bool.not_eq_true, List.not_mem_nil, false_implies, implies_true, Int.reduceNeg, Int.reduceToNat, Int.reducePow, Int.reduceMul, Int.reduceAdd, draw_i, ix_t0, ix_t1, ix_t2, ix_t3, ix_m3, ix_m4, sn_ball_box, sn_cell_box, sn_cell_ball, sn_ball_cell, sn_box_ball, sn_box_cell, decide_false, wYes]
      rw [e]
      refine heap_cells ns _ (by rw [List.length_append, List.length_singleton]; rw [List.length_cons] at hl; omega) (fun c hc => ?_) q
      rcases List.mem_append.mp hc with z | z
      · exact hp c z
      · rw [List.mem_singleton.mp z]
        split <;> omega
theorem heap_great {Q : KD} {M : Mp} {v0 v2 v3 : Option D} : ∀ (ns acc : List Int), acc.length + ns.length ≤ 63 → (∀ c ∈ acc, 0 ≤ c) → (∀ c ∈ ns, 0 ≤ c) → (∀ cs : List Int, cs.length ≤ 63 → (∀ c ∈ cs, 0 ≤ c) → Q (.lst (cs.map .int)) M) →
    wLcL (wgName 1) (wB (wOp fGe (wVar 1) (wOp (fI CPow fun i j => .int (i ^ j.toNat)) (wC (.int 10)) (wC (.int 18))))) (wVar 1) AnyM [v0, none, v2, v3] (ns.map .int) (acc.map .int) M Q
  | [], acc, hl, hp, hq, q => ⟨True.intro, q acc (by simpa using hl) hp⟩
  | n :: ns, acc, hl, hp, hq, q => by
    rw [List.length_cons] at hl
    refine ⟨True.intro, ?_, ?_⟩
    · rw [List.length_map]
      exact Nat.lt_of_lt_of_le (by omega : acc.length < 63) (by decide)
    · have e : ∀ c : Int, acc.map D.int ++ [.int c] = (acc ++ [c]).map .int := fun c => by rw [List.map_append]; rfl
      simp (disch := first | assumption | decide) only [wSeq, wNext, wAsg, wgName, wIfS, wB, wOp, wVar, wC, wCall, wCallK, wCons, wNil, wRet, wRetN, wDrop, wTup, wLst, wIf, wAnd, wOr, wNot, wAndV, wOrV, wNotV, wNeg, wChain, fI, fI0, addD, fLt, fLe, fGt, fGe, fIsB, wCB, fAbs, f2I, fInt, fIsq, wPar, wPar3, permD, startE, List.map_cons, List.map_nil, List.cons_append, List.nil_append, List.append_nil, List.length_cons, List.length_nil, List.replicate, List.getElem?_cons_zero, List.getElem?_cons_succ, List.set_cons_zero, List.set_cons_succ, List.getD_cons_zero, List.getD_cons_succ, Nat.reduceAdd, Nat.reduceSub, Nat.zero_add, true_and, and_true, Bool.not_true, Bool.not_false, if_true, if_false, Bool.false_eq_true, reduceIte, decide_eq_true_eq, Bool.not_eq_true', decide_eq_false_iff_not, eqV_int, eqV_str, eqV_bl, decide_true, reduceCtorEq, not_true_eq_false, not_false_eq_true, Bool.not_eq_true, List.not_mem_nil, false_implies, implies_true, Int.reduceNeg, Int.reduceToNat, Int.reducePow, Int.reduceMul, Int.reduceAdd, draw_i, ix_t0, ix_t1, ix_t2, ix_t3, ix_m3, ix_m4, sn_ball_box, sn_cell_box, sn_cell_ball, sn_ball_cell, sn_box_ball, sn_box_cell, decide_false]
      refine ⟨⟨by decide, by decide, by decide⟩, ?_⟩
      have hq2 : ∀ c ∈ ns, 0 ≤ c := fun c hc => hq c (List.mem_cons_of_mem _ hc)
      split
      · rw [e]
        refine heap_great ns _ (by rw [List.length_append, List.length_singleton]; omega) (fun c hc => ?_) hq2 q
        rcases List.mem_append.mp hc with z | z
        · exact hp c z
        · rw [List.mem_singleton.mp z]
          exact hq n List.mem_cons_self
      · exact heap_great ns acc (by omega) hp hq2 q
theorem wp__law_heap : ∀ ds M Q R, F__law_heap ds M Q R → W__law_heap { nx := fun _ M' => Q .non M', rt := Q, xr := lx R } (startE 4 ds) M := by
  rintro ds M Q R ⟨ns, rfl, hn, q⟩
  unfold W__law_heap
  refine seq_gen fun K hK => ?_
  simp (disch := first | assumption | decide) only [wSeq, wNext, wAsg, wgName, wIfS, wB, wOp, wVar, wC, wCall, wCallK, wCons, wNil, wRet, wRetN, wDrop, wTup, wLst, wIf, wAnd, wOr, wNot, wAndV, wOrV, wNotV, wNeg, wChain, fI, fI0, addD, fLt, fLe, fGt, fGe, fIsB, wCB, fAbs, f2I, fInt, fIsq, wPar, wPar3, permD, startE, List.map_cons, List.map_nil, List.cons_append, List.nil_append, List.append_nil, List.length_cons, List.length_nil, List.replicate, List.getElem?_cons_zero, List.getElem?_cons_succ, List.set_cons_zero, List.set_cons_succ, List.getD_cons_zero, List.getD_cons_succ, Nat.reduceAdd, Nat.reduceSub, Nat.zero_add, true_and, and_true, Bool.not_true, Bool.not_false, if_true, if_false, Bool.false_eq_true, reduceIte, decide_eq_true_eq, Bool.not_eq_true', decide_eq_false_iff_not, eqV_int, eqV_str, eqV_bl, decide_true, reduceCtorEq, not_true_eq_false, not_false_eq_true, Bool.not_eq_true, List.not_mem_nil, false_implies, implies_true, Int.reduceNeg, Int.reduceToNat, Int.reducePow, Int.reduceMul, Int.reduceAdd, draw_i, ix_t0, ix_t1, ix_t2, ix_t3, ix_m3, ix_m4, sn_ball_box, sn_cell_box, sn_cell_ball, sn_ball_cell, sn_box_ball, sn_box_cell, decide_false, wLc, wSl, wNoP, wPart, slD, wiSeq, wipeE]
  obtain ⟨ms, em, lm⟩ := cut_ints ns none (some 60)
  refine ⟨_, ⟨0, .inr rfl⟩, rfl, ?_⟩
  rw [em]
  refine heap_cells ms [] (by simp; omega) (fun c hc => by cases hc) fun cs hc hp => ?_
  subst hK
  refine seq_gen fun K hK => ?_
  refine for_gen fun B hB => ?_
  simp (disch := first | assumption | decide) only [wSeq, wNext, wAsg, wgName, wIfS, wB, wOp, wVar, wC, wCall, wCallK, wCons, wNil, wRet, wRetN, wDrop, wTup, wLst, wIf, wAnd, wOr, wNot, wAndV, wOrV, wNotV, wNeg, wChain, fI, fI0, addD, fLt, fLe, fGt, fGe, fIsB, wCB, fAbs, f2I, fInt, fIsq, wPar, wPar3, permD, startE, List.map_cons, List.map_nil, List.cons_append, List.nil_append, List.append_nil, List.length_cons, List.length_nil, List.replicate, List.getElem?_cons_zero, List.getElem?_cons_succ, List.set_cons_zero, List.set_cons_succ, List.getD_cons_zero, List.getD_cons_succ, Nat.reduceAdd, Nat.reduceSub, Nat.zero_add, true_and, and_true, Bool.not_true, Bool.not_false, if_true, if_false, Bool.false_eq_true, reduceIte, decide_eq_true_eq, Bool.not_eq_true', decide_eq_false_iff_not, eqV_int, eqV_str, eqV_bl, decide_true, reduceCtorEq, not_true_eq_false, not_false_eq_true, Bool.not_eq_true, List.not_mem_nil, false_implies, implies_true, Int.reduceNeg, Int.reduceToNat, Int.reducePow, Int.reduceMul, Int.reduceAdd, draw_i, ix_t0, ix_t1, ix_t2, ix_t3, ix_m3, ix_m4, sn_ball_box, sn_cell_box, sn_cell_ball, sn_ball_cell, sn_box_ball, sn_box_cell, decide_false, wFor, wiSeq]
  refine loop_ix (fun i ρ' M' => M' = M ∧ ∃ (v1 : Option D) (s : Int), ρ' = [some (.lst (ns.map .int)), v1, some (.lst (cs.map .int)), some (.int s)] ∧ 0 ≤ s ∧ s < 4294967296) ?_ ?_ ⟨rfl, _, _, rfl, by decide, by decide⟩
  · rintro i d ρ' M' hi ⟨rfl, v1, s, rfl, s0, s1⟩
    refine ⟨True.intro, fun K' hK' => ?_⟩
    obtain ⟨c, rfl⟩ : ∃ c : Int, d = .int c := by
      rw [List.getElem?_map] at hi
      cases e : cs[i]? with
      | none =>
        rw [e] at hi
        cases hi
      | some c =>
        rw [e] at hi
        exact ⟨c, (Option.some.inj hi).symm⟩
    subst hB
    simp (disch := first | assumption | decide) only [wSeq, wNext, wAsg, wgName, wIfS, wB, wOp, wVar, wC, wCall, wCallK, wCons, wNil, wRet, wRetN, wDrop, wTup, wLst, wIf, wAnd, wOr, wNot, wAndV, wOrV, wNotV, wNeg, wChain, fI, fI0, addD, fLt, fLe, fGt, fGe, fIsB, wCB, fAbs, f2I, fInt, fIsq, wPar, wPar3, permD, startE, List.map_cons, List.map_nil, List.cons_append, List.nil_append, List.append_nil, List.length_cons, List.length_nil, List.replicate, List.getElem?_cons_zero, List.getElem?_cons_succ, List.set_cons_zero, List.set_cons_succ, List.getD_cons_zero, List.getD_cons_succ, Nat.reduceAdd, Nat.reduceSub, Nat.zero_add, true_and, and_true, Bool.not_true, Bool.not_false, if_true, if_false, Bool.false_eq_true, reduceIte, decide_eq_true_eq, Bool.not_eq_true', decide_eq_false_iff_not, eqV_int, eqV_str, eqV_bl, decide_true, reduceCtorEq, not_true_eq_false, not_false_eq_true, Bool.not_eq_true, List.not_mem_nil, false_implies, implies_true, Int.reduceNeg, Int.reduceToNat, Int.reducePow, Int.reduceMul, Int.reduceAdd, draw_i, ix_t0, ix_t1, ix_t2, ix_t3, ix_m3, ix_m4, sn_ball_box, sn_cell_box, sn_cell_ball, sn_ball_cell, sn_box_ball, sn_box_cell, decide_false]
    refine ⟨.inl (.inr ⟨by decide, by decide⟩), by decide, by decide, ?_⟩
    exact hK' _ _ ⟨rfl, _, _, rfl, Int.emod_nonneg _ (by decide), Int.lt_trans (Int.emod_lt_of_pos _ (by decide)) (by decide)⟩
  · rintro ρ' M' ⟨rfl, v1, s, rfl, s0, s1⟩
    refine ⟨True.intro, ?_⟩
    show K _ _
    subst hK
    simp (disch := first | assumption | decide) only [wSeq, wNext, wAsg, wgName, wIfS, wB, wOp, wVar, wC, wCall, wCallK, wCons, wNil, wRet, wRetN, wDrop, wTup, wLst, wIf, wAnd, wOr, wNot, wAndV, wOrV, wNotV, wNeg, wChain, fI, fI0, addD, fLt, fLe, fGt, fGe, fIsB, wCB, fAbs, f2I, fInt, fIsq, wPar, wPar3, permD, startE, List.map_cons, List.map_nil, List.cons_append, List.nil_append, List.append_nil, List.length_cons, List.length_nil, List.replicate, List.getElem?_cons_zero, List.getElem?_cons_succ, List.set_cons_zero, List.set_cons_succ, List.getD_cons_zero, List.getD_cons_succ, Nat.reduceAdd, Nat.reduceSub, Nat.zero_add, true_and, and_true, Bool.not_true, Bool.not_false, if_true, if_false, Bool.false_eq_true, reduceIte, decide_eq_true_eq, Bool.not_eq_true', decide_eq_false_iff_not, eqV_int, eqV_str, eqV_bl, decide_true, reduceCtorEq, not_true_eq_false, not_false_eq_true, Bool.not_eq_true, List.not_mem_nil, false_implies, implies_true, Int.reduceNeg, Int.reduceToNat, Int.reducePow, Int.reduceMul, Int.reduceAdd, draw_i, ix_t0, ix_t1, ix_t2, ix_t3, ix_m3, ix_m4, sn_ball_box, sn_cell_box, sn_cell_ball, sn_ball_cell, sn_box_ball, sn_box_cell, decide_false, wDrw, wLc, wiSeq, wipeE]
    refine heap_great cs [] (by simp; omega) (fun c hc => by cases hc) hp fun cs2 hc2 hp2 => ?_
    refine ⟨cs2, s, rfl, rfl, by omega, hp2, s0, s1, fun p q' hp1 hq1 _ => q _ q' p setM_same⟩
/-! entries and their order -/
theorem ent_fit (e : Ent) : fit 1 e.d := fun d hd => by
  simp only [List.mem_cons, List.not_mem_nil, or_false] at hd
  rcases hd with rfl | rfl | rfl
  · exact True.intro
  · unfold Ent.word
    cases e.w
    · show PySem.PyData.strOk _ = true
      decide +kernel
    · show PySem.PyData.strOk _ = true
      decide +kernel
  · exact True.intro
theorem ents_fit {es : List Ent} : ∀ d ∈ es.map Ent.d, fit 1 d := fun d hd => by
  obtain ⟨e, _, rfl⟩ := List.mem_map.mp hd
  exact ent_fit e
theorem hp_ok {es : List Ent} (h : es.length ≤ 2500) : hpOk (es.map Ent.d) := ⟨⟨1, by decide, ents_fit⟩, fun d hd => by
  obtain ⟨e, _, rfl⟩ := List.mem_map.mp hd
  exact (fun z => nomatch z), fun d hd d' hd' => by
  obtain ⟨e, _, rfl⟩ := List.mem_map.mp hd
  obtain ⟨e', _, rfl⟩ := List.mem_map.mp hd'
  rfl, by rw [List.length_map]; exact h⟩
theorem ent_anti {e f : Ent} (h1 : leD e.d f.d) (h2 : leD f.d e.d) : e.d = f.d := by
  have k := PyProof.Rows.lex_total _ _ h2 h1
  have ke : ∀ g : Ent, PySem.W.keyToks g.d.py = [.inl 1, .inl g.a, .inl 1, .inr g.word.cps.toList, .inl 1, .inl g.c, .inl 0] := fun g => rfl
  rw [ke, ke] at k
  simp only [List.cons.injEq, Sum.inl.injEq, Sum.inr.injEq, and_true, true_and] at k
  obtain ⟨k1, k2, k3⟩ := k
  have kw : e.word = f.word := PySem.W.str_of_cps k2
  show D.tup [.int e.a, .str e.word, .int e.c] = D.tup [.int f.a, .str f.word, .int f.c]
  rw [k1, kw, k3]
theorem le_iff {d e : D} : PySem.W.dataLe false D.py d e = true ↔ leD d e := by
  show (!PyProof.Rows.lexLt PyProof.Rows.itemOrd (PySem.W.keyToks e.py) (PySem.W.keyToks d.py)) = true ↔ _
  rw [Bool.not_eq_true']
  exact Iff.rfl
theorem leD_tot (d e : D) : leD d e ∨ leD e d := by
  cases h : PySem.W.dataLt e.py d.py with
  | false => exact .inl h
  | true =>
    refine .inr ?_
    have := leVD_lt (a := (.non, e)) (b := (.non, d)) h
    exact this
theorem srt_pw (l : List D) : (srtD l).Pairwise leD := by
  have h := List.pairwise_mergeSort (le := PySem.W.dataLe false D.py) (fun a b c h1 h2 => le_iff.mpr (leD_tr _ _ _ (le_iff.mp h1) (le_iff.mp h2))) (fun a b => by
    rw [Bool.or_eq_true]
    exact (leD_tot a b).imp le_iff.mpr le_iff.mpr) l
  exact h.imp fun z => le_iff.mp z
theorem srt_pm (l : List D) : (srtD l).Perm l := List.mergeSort_perm l _
/-- sorted lists of the same entries are one -/
theorem srt_one {es : List Ent} {l l' : List D} (p : l.Perm (es.map Ent.d)) (p' : l'.Perm (es.map Ent.d)) (h : l.Pairwise leD) (h' : l'.Pairwise leD) : l = l' :=
  List.Perm.eq_of_pairwise (fun a b ha hb h1 h2 => by
    obtain ⟨e, _, rfl⟩ := List.mem_map.mp (p.mem_iff.mp ha)
    obtain ⟨f, _, rfl⟩ := List.mem_map.mp (p'.mem_iff.mp hb)
    exact ent_anti h1 h2) h h' (p.trans p'.symm)
theorem srt_eq {es es' : List Ent} (p : es.Perm es') : srtD (es.map Ent.d) = srtD (es'.map Ent.d) :=
  srt_one (es := es) (srt_pm _) ((srt_pm _).trans (p.symm.map _)) (srt_pw _) (srt_pw _)
/-- what is sorted: the least, then the others -/
theorem srt_cons {x : Ent} {r : List Ent} (h : isHp ((x :: r).map Ent.d)) : srtD ((x :: r).map Ent.d) = x.d :: srtD (r.map Ent.d) := by
  refine srt_one (es := x :: r) (srt_pm _) ((srt_pm _).cons _) (srt_pw _) (List.pairwise_cons.mpr ⟨fun d hd => ?_, srt_pw _⟩)
  exact isHp.least (x := x.d) (es := r.map Ent.d) h d (List.mem_cons_of_mem _ ((srt_pm _).mem_iff.mp hd))
/-- back from data -/
theorem ents_of {l : List D} {es : List Ent} (p : l.Perm (es.map Ent.d)) : ∃ es' : List Ent, l = es'.map Ent.d ∧ es'.Perm es := by
  induction l generalizing es with
  | nil =>
    have := p.length_eq
    rw [List.length_map] at this
    cases es with
    | nil => exact ⟨[], rfl, .nil⟩
    | cons _ _ => cases this
  | cons d l ih =>
    obtain ⟨e, he, rfl⟩ := List.mem_map.mp (p.mem_iff.mp List.mem_cons_self)
    obtain ⟨s, t, rfl⟩ := List.append_of_mem he
    have p2 : l.Perm ((s ++ t).map Ent.d) := by
      refine List.Perm.cons_inv (a := e.d) (p.trans ?_)
      rw [List.map_append, List.map_cons, List.map_append]
      exact List.perm_middle
    obtain ⟨es', rfl, q⟩ := ih p2
    exact ⟨e :: es', rfl, (q.cons e).trans List.perm_middle.symm⟩
theorem srt_ok {es : List Ent} {M : Mp} {d : D} {Q : KD} (hd : ∃ a, d = .tok a ∨ d = .lst (es.map Ent.d)) (hs : seqD M d = some (es.map Ent.d)) (q : Q (.lst (srtD (es.map Ent.d))) M) : fSrt [d] M Q :=
  ⟨_, 1, hd, hs, by decide, ents_fit, by rw [List.map_map]; exact PySem.W.AllAlike.of fun b b' => rfl, by rw [List.map_map]; exact PySem.W.Sortable.tuples fun b => ⟨_, _, rfl⟩, q⟩
theorem hp_nil : isHp (([] : List Ent).map Ent.d) := fun i p q _ _ e _ => by cases e
end K31
namespace K31
open PySem L2 L3
/-! the queue -/
theorem fld_q {M : Mp} {o h : Addr} {es : List Ent} {i : Nat} {ρ : En} {Q : KD} (e : ρ[i]? = some (some (.tok o))) (hq : qAt M o h es) (q : Q (.tok h) M) : wFld "Queue" "_heap" (wVar i) ρ M Q := by
  unfold wFld wVar
  rw [e]
  dsimp only
  rw [hq.1]
  exact ⟨rfl, _, rfl, q⟩
theorem wp_Queue_how_many : ∀ ds M Q R, F_Queue_how_many ds M Q R → W_Queue_how_many { nx := fun _ M' => Q .non M', rt := Q, xr := lx R } (startE 1 ds) M := by
  rintro ds M Q R ⟨o, h, es, rfl, hq, q⟩
  unfold W_Queue_how_many
  simp (disch := first | assumption | decide) only [wSeq, wNext, wAsg, wgName, wIfS, wB, wOp, wVar, wC, wCall, wCallK, wCons, wNil, wRet, wRetN, wDrop, wTup, wLst, wIf, wAnd, wOr, wNot, wAndV, wOrV, wNotV, wNeg, wChain, fI, fI0, addD, fLt, fLe, fGt, fGe, fIsB, wCB, fAbs, f2I, fInt, fIsq, wPar, wPar3, permD, startE, List.map_cons, List.map_nil, List.cons_append, List.nil_append, List.append_nil, List.length_cons, List.length_nil, List.replicate, List.getElem?_cons_zero, List.getElem?_cons_succ, List.set_cons_zero, List.set_cons_succ, List.getD_cons_zero, List.getD_cons_succ, Nat.reduceAdd, Nat.reduceSub, Nat.zero_add, true_and, and_true, Bool.not_true, Bool.not_false, if_true, if_false, Bool.false_eq_true, reduceIte, decide_eq_true_eq, Bool.not_eq_true', decide_eq_false_iff_not, eqV_int, eqV_str, eqV_bl, decide_true, reduceCtorEq, not_true_eq_false, not_false_eq_true, Bool.not_eq_true, List.not_mem_nil, false_implies, implies_true, Int.reduceNeg, Int.reduceToNat, Int.reducePow, Int.reduceMul, Int.reduceAdd, draw_i, ix_t0, ix_t1, ix_t2, ix_t3, ix_m3, ix_m4, sn_ball_box, sn_cell_box, sn_cell_ball, sn_ball_cell, sn_box_ball, sn_box_cell, decide_false]
  refine fld_q rfl hq ?_
  simp (disch := first | assumption | decide) only [wSeq, wNext, wAsg, wgName, wIfS, wB, wOp, wVar, wC, wCall, wCallK, wCons, wNil, wRet, wRetN, wDrop, wTup, wLst, wIf, wAnd, wOr, wNot, wAndV, wOrV, wNotV, wNeg, wChain, fI, fI0, addD, fLt, fLe, fGt, fGe, fIsB, wCB, fAbs, f2I, fInt, fIsq, wPar, wPar3, permD, startE, List.map_cons, List.map_nil, List.cons_append, List.nil_append, List.append_nil, List.length_cons, List.length_nil, List.replicate, List.getElem?_cons_zero, List.getElem?_cons_succ, List.set_cons_zero, List.set_cons_succ, List.getD_cons_zero, List.getD_cons_succ, Nat.reduceAdd, Nat.reduceSub, Nat.zero_add, true_and, and_true, Bool.not_true, Bool.not_false, if_true, if_false, Bool.false_eq_true, reduceIte, decide_eq_true_eq, Bool.not_eq_true', decide_eq_false_iff_not, eqV_int, eqV_str, eqV_bl, decide_true, reduceCtorEq, not_true_eq_false, not_false_eq_true, Bool.not_eq_true, List.not_mem_nil, false_implies, implies_true, Int.reduceNeg, Int.reduceToNat, Int.reducePow, Int.reduceMul, Int.reduceAdd, draw_i, ix_t0, ix_t1, ix_t2, ix_t3, ix_m3, ix_m4, sn_ball_box, sn_cell_box, sn_cell_ball, sn_ball_cell, sn_box_ball, sn_box_cell, decide_false, fLen]
  refine ⟨_, by show (match M h with | some (.lst ds) => some ds | _ => none) = _; rw [hq.2.1], ?_⟩
  rw [List.length_map]
  exact q
theorem seq_h {M : Mp} {h : Addr} {es : List D} (e : M h = some (.lst es)) : seqD M (.tok h) = some es := by
  show (match M h with | some (.lst ds) => some ds | _ => none) = _
  rw [e]
theorem wp_Queue_put : ∀ ds M Q R, F_Queue_put ds M Q R → W_Queue_put { nx := fun _ M' => Q .non M', rt := Q, xr := lx R } (startE 2 ds) M := by
  rintro ds M Q R ⟨o, h, es, e, rfl, hq, hl, q⟩
  unfold W_Queue_put
  simp (disch := first | assumption | decide) only [wSeq, wNext, wAsg, wgName, wIfS, wB, wOp, wVar, wC, wCall, wCallK, wCons, wNil, wRet, wRetN, wDrop, wTup, wLst, wIf, wAnd, wOr, wNot, wAndV, wOrV, wNotV, wNeg, wChain, fI, fI0, addD, fLt, fLe, fGt, fGe, fIsB, wCB, fAbs, f2I, fInt, fIsq, wPar, wPar3, permD, startE, List.map_cons, List.map_nil, List.cons_append, List.nil_append, List.append_nil, List.length_cons, List.length_nil, List.replicate, List.getElem?_cons_zero, List.getElem?_cons_succ, List.set_cons_zero, List.set_cons_succ, List.getD_cons_zero, List.getD_cons_succ, Nat.reduceAdd, Nat.reduceSub, Nat.zero_add, true_and, and_true, Bool.not_true, Bool.not_false, if_true, if_false, Bool.false_eq_true, reduceIte, decide_eq_true_eq, Bool.not_eq_true', decide_eq_false_iff_not, eqV_int, eqV_str, eqV_bl, decide_true, reduceCtorEq, not_true_eq_false, not_false_eq_true, Bool.not_eq_true, List.not_mem_nil, false_implies, implies_true, Int.reduceNeg, Int.reduceToNat, Int.reducePow, Int.reduceMul, Int.reduceAdd, draw_i, ix_t0, ix_t1, ix_t2, ix_t3, ix_m3, ix_m4, sn_ball_box, sn_cell_box, sn_cell_ball, sn_ball_cell, sn_box_ball, sn_box_cell, decide_false]
  refine fld_q rfl hq ?_
  simp (disch := first | assumption | decide) only [wSeq, wNext, wAsg, wgName, wIfS, wB, wOp, wVar, wC, wCall, wCallK, wCons, wNil, wRet, wRetN, wDrop, wTup, wLst, wIf, wAnd, wOr, wNot, wAndV, wOrV, wNotV, wNeg, wChain, fI, fI0, addD, fLt, fLe, fGt, fGe, fIsB, wCB, fAbs, f2I, fInt, fIsq, wPar, wPar3, permD, startE, List.map_cons, List.map_nil, List.cons_append, List.nil_append, List.append_nil, List.length_cons, List.length_nil, List.replicate, List.getElem?_cons_zero, List.getElem?_cons_succ, List.set_cons_zero, List.set_cons_succ, List.getD_cons_zero, List.getD_cons_succ, Nat.reduceAdd, Nat.reduceSub, Nat.zero_add, true_and, and_true, Bool.not_true, Bool.not_false, if_true, if_false, Bool.false_eq_true, reduceIte, decide_eq_true_eq, Bool.not_eq_true', decide_eq_false_iff_not, eqV_int, eqV_str, eqV_bl, decide_true, reduceCtorEq, not_true_eq_false, not_false_eq_true, Bool.not_eq_true, List.not_mem_nil, false_implies, implies_true, Int.reduceNeg, Int.reduceToNat, Int.reducePow, Int.reduceMul, Int.reduceAdd, draw_i, ix_t0, ix_t1, ix_t2, ix_t3, ix_m3, ix_m4, sn_ball_box, sn_cell_box, sn_cell_ball, sn_ball_cell, sn_box_ball, sn_box_cell, decide_false, fPush]
  refine ⟨_, hq.2.1, ?_, hq.2.2.1, fun es' pm hi => ?_⟩
  · have k := hp_ok (es := es ++ [e]) (by rw [List.length_append, List.length_singleton]; omega)
    rw [List.map_append] at k
    exact k
  · have pm2 : es'.Perm ((es ++ [e]).map Ent.d) := by rw [List.map_append]; exact pm
    obtain ⟨fs, rfl, pf⟩ := ents_of pm2
    exact q fs pf hi
theorem at0 {x : D} {l : List D} : atI (x :: l) 0 = some x := by
  unfold atI ixN
  simp
theorem wp_Queue_first : ∀ ds M Q R, F_Queue_first ds M Q R → W_Queue_first { nx := fun _ M' => Q .non M', rt := Q, xr := lx R } (startE 1 ds) M := by
  rintro ds M Q R ⟨o, h, es, rfl, hq, q⟩
  unfold W_Queue_first
  refine seq_gen fun K hK => ?_
  simp (disch := first | assumption | decide) only [wSeq, wNext, wAsg, wgName, wIfS, wB, wOp, wVar, wC, wCall, wCallK, wCons, wNil, wRet, wRetN, wDrop, wTup, wLst, wIf, wAnd, wOr, wNot, wAndV, wOrV, wNotV, wNeg, wChain, fI, fI0, addD, fLt, fLe, fGt, fGe, fIsB, wCB, fAbs, f2I, fInt, fIsq, wPar, wPar3, permD, startE, List.map_cons, List.map_nil, List.cons_append, List.nil_append, List.append_nil, List.length_cons, List.length_nil, List.replicate, List.getElem?_cons_zero, List.getElem?_cons_succ, List.set_cons_zero, List.set_cons_succ, List.getD_cons_zero, List.getD_cons_succ, Nat.reduceAdd, Nat.reduceSub, Nat.zero_add, true_and, and_true, Bool.not_true, Bool.not_false, if_true, if_false, Bool.false_eq_true, reduceIte, decide_eq_true_eq, Bool.not_eq_true', decide_eq_false_iff_not, eqV_int, eqV_str, eqV_bl, decide_true, reduceCtorEq, not_true_eq_false, not_false_eq_true, Bool.not_eq_true, List.not_mem_nil, false_implies, implies_true, Int.reduceNeg, Int.reduceToNat, Int.reducePow, Int.reduceMul, Int.reduceAdd, draw_i, ix_t0, ix_t1, ix_t2, ix_t3, ix_m3, ix_m4, sn_ball_box, sn_cell_box, sn_cell_ball, sn_ball_cell, sn_box_ball, sn_box_cell, decide_false]
  refine fld_q rfl hq ?_
  simp (disch := first | assumption | decide) only [wSeq, wNext, wAsg, wgName, wIfS, wB, wOp, wVar, wC, wCall, wCallK, wCons, wNil, wRet, wRetN, wDrop, wTup, wLst, wIf, wAnd, wOr, wNot, wAndV, wOrV, wNotV, wNeg, wChain, fI, fI0, addD, fLt, fLe, fGt, fGe, fIsB, wCB, fAbs, f2I, fInt, fIsq, wPar, wPar3, permD, startE, List.map_cons, List.map_nil, List.cons_append, List.nil_append, List.append_nil, List.length_cons, List.length_nil, List.replicate, List.getElem?_cons_zero, List.getElem?_cons_succ, List.set_cons_zero, List.set_cons_succ, List.getD_cons_zero, List.getD_cons_succ, Nat.reduceAdd, Nat.reduceSub, Nat.zero_add, true_and, and_true, Bool.not_true, Bool.not_false, if_true, if_false, Bool.false_eq_true, reduceIte, decide_eq_true_eq, Bool.not_eq_true', decide_eq_false_iff_not, eqV_int, eqV_str, eqV_bl, decide_true, reduceCtorEq, not_true_eq_false, not_false_eq_true, Bool.not_eq_true, List.not_mem_nil, false_implies, implies_true, Int.reduceNeg, Int.reduceToNat, Int.reducePow, Int.reduceMul, Int.reduceAdd, draw_i, ix_t0, ix_t1, ix_t2, ix_t3, ix_m3, ix_m4, sn_ball_box, sn_cell_box, sn_cell_ball, sn_ball_cell, sn_box_ball, sn_box_cell, decide_false, fLen]
  refine ⟨_, seq_h hq.2.1, ?_⟩
  cases es with
  | nil =>
    simp (disch := first | assumption | decide) only [wSeq, wNext, wAsg, wgName, wIfS, wB, wOp, wVar, wC, wCall, wCallK, wCons, wNil, wRet, wRetN, wDrop, wTup, wLst, wIf, wAnd, wOr, wNot, wAndV, wOrV, wNotV, wNeg, wChain, fI, fI0, addD, fLt, fLe, fGt, fGe, fIsB, wCB, fAbs, f2I, fInt, fIsq, wPar, wPar3, permD, startE, List.map_cons, List.map_nil, List.cons_append, List.nil_append, List.append_nil, List.length_cons, List.length_nil, List.replicate, List.getElem?_cons_zero, List.getElem?_cons_succ, List.set_cons_zero, List.set_cons_succ, List.getD_cons_zero, List.getD_cons_succ, Nat.reduceAdd, Nat.reduceSub, Nat.zero_add, true_and, and_true, Bool.not_true, Bool.not_false, if_true, if_false, Bool.false_eq_true, reduceIte, decide_eq_true_eq, Bool.not_eq_true', decide_eq_false_iff_not, eqV_int, eqV_str, eqV_bl, decide_true, reduceCtorEq, not_true_eq_false, not_false_eq_true, Bool.not_eq_true, List.not_mem_nil, false_implies, implies_true, Int.reduceNeg, Int.reduceToNat, Int.reducePow, Int.reduceMul, Int.reduceAdd, draw_i, ix_t0, ix_t1, ix_t2, ix_t3, ix_m3, ix_m4, sn_ball_box, sn_cell_box, sn_cell_ball, sn_ball_cell, sn_box_ball, sn_box_cell, decide_false]
    rw [if_pos (show ((0 : Nat) : Int) = 0 from rfl)]
    exact ⟨by decide, by decide, fun dx => q⟩
  | cons x r =>
    rw [if_neg (by rw [List.length_map, List.length_cons]; omega)]
    subst hK
    simp (disch := first | assumption | decide) only [wSeq, wNext, wAsg, wgName, wIfS, wB, wOp, wVar, wC, wCall, wCallK, wCons, wNil, wRet, wRetN, wDrop, wTup, wLst, wIf, wAnd, wOr, wNot, wAndV, wOrV, wNotV, wNeg, wChain, fI, fI0, addD, fLt, fLe, fGt, fGe, fIsB, wCB, fAbs, f2I, fInt, fIsq, wPar, wPar3, permD, startE, List.map_cons, List.map_nil, List.cons_append, List.nil_append, List.append_nil, List.length_cons, List.length_nil, List.replicate, List.getElem?_cons_zero, List.getElem?_cons_succ, List.set_cons_zero, List.set_cons_succ, List.getD_cons_zero, List.getD_cons_succ, Nat.reduceAdd, Nat.reduceSub, Nat.zero_add, true_and, and_true, Bool.not_true, Bool.not_false, if_true, if_false, Bool.false_eq_true, reduceIte, decide_eq_true_eq, Bool.not_eq_true', decide_eq_false_iff_not, eqV_int, eqV_str, eqV_bl, decide_true, reduceCtorEq, not_true_eq_false, not_false_eq_true, Bool.not_eq_true, List.not_mem_nil, false_implies, implies_true, Int.reduceNeg, Int.reduceToNat, Int.reducePow, Int.reduceMul, Int.reduceAdd, draw_i, ix_t0, ix_t1, ix_t2, ix_t3, ix_m3, ix_m4, sn_ball_box, sn_cell_box, sn_cell_ball, sn_ball_cell, sn_box_ball, sn_box_cell, decide_false]
    refine fld_q rfl hq ?_
    exact ⟨_, _, seq_h hq.2.1, at0, q⟩
theorem wp_Queue_take : ∀ ds M Q R, F_Queue_take ds M Q R → W_Queue_take { nx := fun _ M' => Q .non M', rt := Q, xr := lx R } (startE 1 ds) M := by
  rintro ds M Q R ⟨o, h, es, rfl, hq, q⟩
  unfold W_Queue_take
  refine seq_gen fun K hK => ?_
  simp (disch := first | assumption | decide) only [wSeq, wNext, wAsg, wgName, wIfS, wB, wOp, wVar, wC, wCall, wCallK, wCons, wNil, wRet, wRetN, wDrop, wTup, wLst, wIf, wAnd, wOr, wNot, wAndV, wOrV, wNotV, wNeg, wChain, fI, fI0, addD, fLt, fLe, fGt, fGe, fIsB, wCB, fAbs, f2I, fInt, fIsq, wPar, wPar3, permD, startE, List.map_cons, List.map_nil, List.cons_append, List.nil_append, List.append_nil, List.length_cons, List.length_nil, List.replicate, List.getElem?_cons_zero, List.getElem?_cons_succ, List.set_cons_zero, List.set_cons_succ, List.getD_cons_zero, List.getD_cons_succ, Nat.reduceAdd, Nat.reduceSub, Nat.zero_add, true_and, and_true, Bool.not_true, Bool.not_false, if_true, if_false, Bool.false_eq_true, reduceIte, decide_eq_true_eq, Bool.not_eq_true', decide_eq_false_iff_not, eqV_int, eqV_str, eqV_bl, decide_true, reduceCtorEq, not_true_eq_false, not_false_eq_true, Bool.not_eq_true, List.not_mem_nil, false_implies, implies_true, Int.reduceNeg, Int.reduceToNat, Int.reducePow, Int.reduceMul, Int.reduceAdd, draw_i, ix_t0, ix_t1, ix_t2, ix_t3, ix_m3, ix_m4, sn_ball_box, sn_cell_box, sn_cell_ball, sn_ball_cell, sn_box_ball, sn_box_cell, decide_false]
  refine fld_q rfl hq ?_
  simp (disch := first | assumption | decide) only [wSeq, wNext, wAsg, wgName, wIfS, wB, wOp, wVar, wC, wCall, wCallK, wCons, wNil, wRet, wRetN, wDrop, wTup, wLst, wIf, wAnd, wOr, wNot, wAndV, wOrV, wNotV, wNeg, wChain, fI, fI0, addD, fLt, fLe, fGt, fGe, fIsB, wCB, fAbs, f2I, fInt, fIsq, wPar, wPar3, permD, startE, List.map_cons, List.map_nil, List.cons_append, List.nil_append, List.append_nil, List.length_cons, List.length_nil, List.replicate, List.getElem?_cons_zero, List.getElem?_cons_succ, List.set_cons_zero, List.set_cons_succ, List.getD_cons_zero, List.getD_cons_succ, Nat.reduceAdd, Nat.reduceSub, Nat.zero_add, true_and, and_true, Bool.not_true, Bool.not_false, if_true, if_false, Bool.false_eq_true, reduceIte, decide_eq_true_eq, Bool.not_eq_true', decide_eq_false_iff_not, eqV_int, eqV_str, eqV_bl, decide_true, reduceCtorEq, not_true_eq_false, not_false_eq_true, Bool.not_eq_true, List.not_mem_nil, false_implies, implies_true, Int.reduceNeg, Int.reduceToNat, Int.reducePow, Int.reduceMul, Int.reduceAdd, draw_i, ix_t0, ix_t1, ix_t2, ix_t3, ix_m3, ix_m4, sn_ball_box, sn_cell_box, sn_cell_ball, sn_ball_cell, sn_box_ball, sn_box_cell, decide_false, fLen]
  refine ⟨_, seq_h hq.2.1, ?_⟩
  cases es with
  | nil =>
    simp (disch := first | assumption | decide) only [wSeq, wNext, wAsg, wgName, wIfS, wB, wOp, wVar, wC, wCall, wCallK, wCons, wNil, wRet, wRetN, wDrop, wTup, wLst, wIf, wAnd, wOr, wNot, wAndV, wOrV, wNotV, wNeg, wChain, fI, fI0, addD, fLt, fLe, fGt, fGe, fIsB, wCB, fAbs, f2I, fInt, fIsq, wPar, wPar3, permD, startE, List.map_cons, List.map_nil, List.cons_append, List.nil_append, List.append_nil, List.length_cons, List.length_nil, List.replicate, List.getElem?_cons_zero, List.getElem?_cons_succ, List.set_cons_zero, List.set_cons_succ, List.getD_cons_zero, List.getD_cons_succ, Nat.reduceAdd, Nat.reduceSub, Nat.zero_add, true_and, and_true, Bool.not_true, Bool.not_false, if_true, if_false, Bool.false_eq_true, reduceIte, decide_eq_true_eq, Bool.not_eq_true', decide_eq_false_iff_not, eqV_int, eqV_str, eqV_bl, decide_true, reduceCtorEq, not_true_eq_false, not_false_eq_true, Bool.not_eq_true, List.not_mem_nil, false_implies, implies_true, Int.reduceNeg, Int.reduceToNat, Int.reducePow, Int.reduceMul, Int.reduceAdd, draw_i, ix_t0, ix_t1, ix_t2, ix_t3, ix_m3, ix_m4, sn_ball_box, sn_cell_box, sn_cell_ball, sn_ball_cell, sn_box_ball, sn_box_cell, decide_false]
    rw [if_pos (show ((0 : Nat) : Int) = 0 from rfl)]
    exact ⟨by decide, by decide, fun dx => q⟩
  | cons x r =>
    rw [if_neg (by rw [List.length_map, List.length_cons]; omega)]
    subst hK
    simp (disch := first | assumption | decide) only [wSeq, wNext, wAsg, wgName, wIfS, wB, wOp, wVar, wC, wCall, wCallK, wCons, wNil, wRet, wRetN, wDrop, wTup, wLst, wIf, wAnd, wOr, wNot, wAndV, wOrV, wNotV, wNeg, wChain, fI, fI0, addD, fLt, fLe, fGt, fGe, fIsB, wCB, fAbs, f2I, fInt, fIsq, wPar, wPar3, permD, startE, List.map_cons, List.map_nil, List.cons_append, List.nil_append, List.append_nil, List.length_cons, List.length_nil, List.replicate, List.getElem?_cons_zero, List.getElem?_cons_succ, List.set_cons_zero, List.set_cons_succ, List.getD_cons_zero, List.getD_cons_succ, Nat.reduceAdd, Nat.reduceSub, Nat.zero_add, true_and, and_true, Bool.not_true, Bool.not_false, if_true, if_false, Bool.false_eq_true, reduceIte, decide_eq_true_eq, Bool.not_eq_true', decide_eq_false_iff_not, eqV_int, eqV_str, eqV_bl, decide_true, reduceCtorEq, not_true_eq_false, not_false_eq_true, Bool.not_eq_true, List.not_mem_nil, false_implies, implies_true, Int.reduceNeg, Int.reduceToNat, Int.reducePow, Int.reduceMul, Int.reduceAdd, draw_i, ix_t0, ix_t1, ix_t2, ix_t3, ix_m3, ix_m4, sn_ball_box, sn_cell_box, sn_cell_ball, sn_ball_cell, sn_box_ball, sn_box_cell, decide_false]
    refine fld_q rfl hq ?_
    simp (disch := first | assumption | decide) only [wSeq, wNext, wAsg, wgName, wIfS, wB, wOp, wVar, wC, wCall, wCallK, wCons, wNil, wRet, wRetN, wDrop, wTup, wLst, wIf, wAnd, wOr, wNot, wAndV, wOrV, wNotV, wNeg, wChain, fI, fI0, addD, fLt, fLe, fGt, fGe, fIsB, wCB, fAbs, f2I, fInt, fIsq, wPar, wPar3, permD, startE, List.map_cons, List.map_nil, List.cons_append, List.nil_append, List.append_nil, List.length_cons, List.length_nil, List.replicate, List.getElem?_cons_zero, List.getElem?_cons_succ, List.set_cons_zero, List.set_cons_succ, List.getD_cons_zero, List.getD_cons_succ, Nat.reduceAdd, Nat.reduceSub, Nat.zero_add, true_and, and_true, Bool.not_true, Bool.not_false, if_true, if_false, Bool.false_eq_true, reduceIte, decide_eq_true_eq, Bool.not_eq_true', decide_eq_false_iff_not, eqV_int, eqV_str, eqV_bl, decide_true, reduceCtorEq, not_true_eq_false, not_false_eq_true, Bool.not_eq_true, List.not_mem_nil, false_implies, implies_true, Int.reduceNeg, Int.reduceToNat, Int.reducePow, Int.reduceMul, Int.reduceAdd, draw_i, ix_t0, ix_t1, ix_t2, ix_t3, ix_m3, ix_m4, sn_ball_box, sn_cell_box, sn_cell_ball, sn_ball_cell, sn_box_ball, sn_box_cell, decide_false, fHPop]
    refine ⟨_, _, hq.2.1, hp_ok (es := x :: r) (Nat.le_trans hq.2.2.2 (by decide)), hq.2.2.1, fun es' pm hi => ?_⟩
    obtain ⟨fs, rfl, pf⟩ := ents_of pm
    exact q fs pf hi
theorem wp_Queue_listed : ∀ ds M Q R, F_Queue_listed ds M Q R → W_Queue_listed { nx := fun _ M' => Q .non M', rt := Q, xr := lx R } (startE 1 ds) M := by
  rintro ds M Q R ⟨o, h, es, rfl, hq, q⟩
  unfold W_Queue_listed
  simp (disch := first | assumption | decide) only [wSeq, wNext, wAsg, wgName, wIfS, wB, wOp, wVar, wC, wCall, wCallK, wCons, wNil, wRet, wRetN, wDrop, wTup, wLst, wIf, wAnd, wOr, wNot, wAndV, wOrV, wNotV, wNeg, wChain, fI, fI0, addD, fLt, fLe, fGt, fGe, fIsB, wCB, fAbs, f2I, fInt, fIsq, wPar, wPar3, permD, startE, List.map_cons, List.map_nil, List.cons_append, List.nil_append, List.append_nil, List.length_cons, List.length_nil, List.replicate, List.getElem?_cons_zero, List.getElem?_cons_succ, List.set_cons_zero, List.set_cons_succ, List.getD_cons_zero, List.getD_cons_succ, Nat.reduceAdd, Nat.reduceSub, Nat.zero_add, true_and, and_true, Bool.not_true, Bool.not_false, if_true, if_false, Bool.false_eq_true, reduceIte, decide_eq_true_eq, Bool.not_eq_true', decide_eq_false_iff_not, eqV_int, eqV_str, eqV_bl, decide_true, reduceCtorEq, not_true_eq_false, not_false_eq_true, Bool.not_eq_true, List.not_mem_nil, false_implies, implies_true, Int.reduceNeg, Int.reduceToNat, Int.reducePow, Int.reduceMul, Int.reduceAdd, draw_i, ix_t0, ix_t1, ix_t2, ix_t3, ix_m3, ix_m4, sn_ball_box, sn_cell_box, sn_cell_ball, sn_ball_cell, sn_box_ball, sn_box_cell, decide_false]
  refine fld_q rfl hq ?_
  refine srt_ok ⟨h, .inl rfl⟩ (seq_h hq.2.1) ?_
  simp (disch := first | assumption | decide) only [wSeq, wNext, wAsg, wgName, wIfS, wB, wOp, wVar, wC, wCall, wCallK, wCons, wNil, wRet, wRetN, wDrop, wTup, wLst, wIf, wAnd, wOr, wNot, wAndV, wOrV, wNotV, wNeg, wChain, fI, fI0, addD, fLt, fLe, fGt, fGe, fIsB, wCB, fAbs, f2I, fInt, fIsq, wPar, wPar3, permD, startE, List.map_cons, List.map_nil, List.cons_append, List.nil_append, List.append_nil, List.length_cons, List.length_nil, List.replicate, List.getElem?_cons_zero, List.getElem?_cons_succ, List.set_cons_zero, List.set_cons_succ, List.getD_cons_zero, List.getD_cons_succ, Nat.reduceAdd, Nat.reduceSub, Nat.zero_add, true_and, and_true, Bool.not_true, Bool.not_false, if_true, if_false, Bool.false_eq_true, reduceIte, decide_eq_true_eq, Bool.not_eq_true', decide_eq_false_iff_not, eqV_int, eqV_str, eqV_bl, decide_true, reduceCtorEq, not_true_eq_false, not_false_eq_true, Bool.not_eq_true, List.not_mem_nil, false_implies, implies_true, Int.reduceNeg, Int.reduceToNat, Int.reducePow, Int.reduceMul, Int.reduceAdd, draw_i, ix_t0, ix_t1, ix_t2, ix_t3, ix_m3, ix_m4, sn_ball_box, sn_cell_box, sn_cell_ball, sn_ball_cell, sn_box_ball, sn_box_cell, decide_false, fTuple]
  exact ⟨_, rfl, q⟩
theorem put_h (d : D) : putFD "_heap" d [] = ([("_heap", d)] : List (Str × D)) := rfl
theorem put_h2 (d e : D) : putFD "_heap" d ([("_heap", e)] : List (Str × D)) = ([("_heap", d)] : List (Str × D)) := by kernel_rfl
theorem wp_Queue_take_all : ∀ ds M Q R, F_Queue_take_all ds M Q R → W_Queue_take_all { nx := fun _ M' => Q .non M', rt := Q, xr := lx R } (startE 2 ds) M := by
  rintro ds M Q R ⟨o, h, es, rfl, hq, q⟩
  unfold W_Queue_take_all
  refine seq_gen fun K hK => ?_
  simp (disch := first | assumption | decide) only [wSeq, wNext, wAsg, wgName, wIfS, wB, wOp, wVar, wC, wCall, wCallK, wCons, wNil, wRet, wRetN, wDrop, wTup, wLst, wIf, wAnd, wOr, wNot, wAndV, wOrV, wNotV, wNeg, wChain, fI, fI0, addD, fLt, fLe, fGt, fGe, fIsB, wCB, fAbs, f2I, fInt, fIsq, wPar, wPar3, permD, startE, List.map_cons, List.map_nil, List.cons_append, List.nil_append, List.append_nil, List.length_cons, List.length_nil, List.replicate, List.getElem?_cons_zero, List.getElem?_cons_succ, List.set_cons_zero, List.set_cons_succ, List.getD_cons_zero, List.getD_cons_succ, Nat.reduceAdd, Nat.reduceSub, Nat.zero_add, true_and, and_true, Bool.not_true, Bool.not_false, if_true, if_false, Bool.false_eq_true, reduceIte, decide_eq_true_eq, Bool.not_eq_true', decide_eq_false_iff_not, eqV_int, eqV_str, eqV_bl, decide_true, reduceCtorEq, not_true_eq_false, not_false_eq_true, Bool.not_eq_true, List.not_mem_nil, false_implies, implies_true, Int.reduceNeg, Int.reduceToNat, Int.reducePow, Int.reduceMul, Int.reduceAdd, draw_i, ix_t0, ix_t1, ix_t2, ix_t3, ix_m3, ix_m4, sn_ball_box, sn_cell_box, sn_cell_ball, sn_ball_cell, sn_box_ball, sn_box_cell, decide_false, wMeth]
  refine ⟨⟨_, hq.1, rfl⟩, o, h, es, rfl, hq, ?_⟩
  subst hK
  refine seq_gen fun K hK => ?_
  simp (disch := first | assumption | decide) only [wSeq, wNext, wAsg, wgName, wIfS, wB, wOp, wVar, wC, wCall, wCallK, wCons, wNil, wRet, wRetN, wDrop, wTup, wLst, wIf, wAnd, wOr, wNot, wAndV, wOrV, wNotV, wNeg, wChain, fI, fI0, addD, fLt, fLe, fGt, fGe, fIsB, wCB, fAbs, f2I, fInt, fIsq, wPar, wPar3, permD, startE, List.map_cons, List.map_nil, List.cons_append, List.nil_append, List.append_nil, List.length_cons, List.length_nil, List.replicate, List.getElem?_cons_zero, List.getElem?_cons_succ, List.set_cons_zero, List.set_cons_succ, List.getD_cons_zero, List.getD_cons_succ, Nat.reduceAdd, Nat.reduceSub, Nat.zero_add, true_and, and_true, Bool.not_true, Bool.not_false, if_true, if_false, Bool.false_eq_true, reduceIte, decide_eq_true_eq, Bool.not_eq_true', decide_eq_false_iff_not, eqV_int, eqV_str, eqV_bl, decide_true, reduceCtorEq, not_true_eq_false, not_false_eq_true, Bool.not_eq_true, List.not_mem_nil, false_implies, implies_true, Int.reduceNeg, Int.reduceToNat, Int.reducePow, Int.reduceMul, Int.reduceAdd, draw_i, ix_t0, ix_t1, ix_t2, ix_t3, ix_m3, ix_m4, sn_ball_box, sn_cell_box, sn_cell_ball, sn_ball_cell, sn_box_ball, sn_box_cell, decide_false, wSetF, wLstM]
  refine ⟨by decide, fun p hp => ?_⟩
  have ne : o ≠ p := fun z => by rw [← z, hq.1] at hp; cases hp
  rw [setM_ne ne, hq.1]
  refine ⟨rfl, by show 1 < 1000; decide, ?_⟩
  rw [put_h2]
  subst hK
  simp (disch := first | assumption | decide) only [wSeq, wNext, wAsg, wgName, wIfS, wB, wOp, wVar, wC, wCall, wCallK, wCons, wNil, wRet, wRetN, wDrop, wTup, wLst, wIf, wAnd, wOr, wNot, wAndV, wOrV, wNotV, wNeg, wChain, fI, fI0, addD, fLt, fLe, fGt, fGe, fIsB, wCB, fAbs, f2I, fInt, fIsq, wPar, wPar3, permD, startE, List.map_cons, List.map_nil, List.cons_append, List.nil_append, List.append_nil, List.length_cons, List.length_nil, List.replicate, List.getElem?_cons_zero, List.getElem?_cons_succ, List.set_cons_zero, List.set_cons_succ, List.getD_cons_zero, List.getD_cons_succ, Nat.reduceAdd, Nat.reduceSub, Nat.zero_add, true_and, and_true, Bool.not_true, Bool.not_false, if_true, if_false, Bool.false_eq_true, reduceIte, decide_eq_true_eq, Bool.not_eq_true', decide_eq_false_iff_not, eqV_int, eqV_str, eqV_bl, decide_true, reduceCtorEq, not_true_eq_false, not_false_eq_true, Bool.not_eq_true, List.not_mem_nil, false_implies, implies_true, Int.reduceNeg, Int.reduceToNat, Int.reducePow, Int.reduceMul, Int.reduceAdd, draw_i, ix_t0, ix_t1, ix_t2, ix_t3, ix_m3, ix_m4, sn_ball_box, sn_cell_box, sn_cell_ball, sn_ball_cell, sn_box_ball, sn_box_cell, decide_false]
  refine q p _ hp ⟨setM_same, by rw [setM_ne (Ne.symm ne), setM_same]; rfl, hp_nil, Nat.zero_le _⟩ fun b c hb e => ?_
  rw [setM_ne hb, setM_ne (fun z => by rw [z, hp] at e; cases e)]
  exact e
theorem wp_Queue___init__ : ∀ ds M Q R, F_Queue___init__ ds M Q R → W_Queue___init__ { nx := fun _ M' => Q .non M', rt := Q, xr := lx R } (startE 2 ds) M := by
  rintro ds M Q R ⟨o, d, es, rfl, ho, hs, hl, q⟩
  unfold W_Queue___init__
  refine seq_gen fun K hK => ?_
  simp (disch := first | assumption | decide) only [wSeq, wNext, wAsg, wgName, wIfS, wB, wOp, wVar, wC, wCall, wCallK, wCons, wNil, wRet, wRetN, wDrop, wTup, wLst, wIf, wAnd, wOr, wNot, wAndV, wOrV, wNotV, wNeg, wChain, fI, fI0, addD, fLt, fLe, fGt, fGe, fIsB, wCB, fAbs, f2I, fInt, fIsq, wPar, wPar3, permD, startE, List.map_cons, List.map_nil, List.cons_append, List.nil_append, List.append_nil, List.length_cons, List.length_nil, List.replicate, List.getElem?_cons_zero, List.getElem?_cons_succ, List.set_cons_zero, List.set_cons_succ, List.getD_cons_zero, List.getD_cons_succ, Nat.reduceAdd, Nat.reduceSub, Nat.zero_add, true_and, and_true, Bool.not_true, Bool.not_false, if_true, if_false, Bool.false_eq_true, reduceIte, decide_eq_true_eq, Bool.not_eq_true', decide_eq_false_iff_not, eqV_int, eqV_str, eqV_bl, decide_true, reduceCtorEq, not_true_eq_false, not_false_eq_true, Bool.not_eq_true, List.not_mem_nil, false_implies, implies_true, Int.reduceNeg, Int.reduceToNat, Int.reducePow, Int.reduceMul, Int.reduceAdd, draw_i, ix_t0, ix_t1, ix_t2, ix_t3, ix_m3, ix_m4, sn_ball_box, sn_cell_box, sn_cell_ball, sn_ball_cell, sn_box_ball, sn_box_cell, decide_false, wSetF, fListM]
  refine ⟨_, hs, fun p hp => ?_⟩
  have ne : o ≠ p := fun z => by rw [← z, ho] at hp; cases hp
  rw [setM_ne ne, ho]
  refine ⟨rfl, by decide, ?_⟩
  rw [put_h]
  subst hK
  have hh : setM (setM M p (.lst (es.map Ent.d))) o (.ins "Queue" [("_heap", .tok p)]) p = some (.lst (es.map Ent.d)) := by rw [setM_ne (Ne.symm ne), setM_same]
  simp (disch := first | assumption | decide) only [wSeq, wNext, wAsg, wgName, wIfS, wB, wOp, wVar, wC, wCall, wCallK, wCons, wNil, wRet, wRetN, wDrop, wTup, wLst, wIf, wAnd, wOr, wNot, wAndV, wOrV, wNotV, wNeg, wChain, fI, fI0, addD, fLt, fLe, fGt, fGe, fIsB, wCB, fAbs, f2I, fInt, fIsq, wPar, wPar3, permD, startE, List.map_cons, List.map_nil, List.cons_append, List.nil_append, List.append_nil, List.length_cons, List.length_nil, List.replicate, List.getElem?_cons_zero, List.getElem?_cons_succ, List.set_cons_zero, List.set_cons_succ, List.getD_cons_zero, List.getD_cons_succ, Nat.reduceAdd, Nat.reduceSub, Nat.zero_add, true_and, and_true, Bool.not_true, Bool.not_false, if_true, if_false, Bool.false_eq_true, reduceIte, decide_eq_true_eq, Bool.not_eq_true', decide_eq_false_iff_not, eqV_int, eqV_str, eqV_bl, decide_true, reduceCtorEq, not_true_eq_false, not_false_eq_true, Bool.not_eq_true, List.not_mem_nil, false_implies, implies_true, Int.reduceNeg, Int.reduceToNat, Int.reducePow, Int.reduceMul, Int.reduceAdd, draw_i, ix_t0, ix_t1, ix_t2, ix_t3, ix_m3, ix_m4, sn_ball_box, sn_cell_box, sn_cell_ball, sn_ball_cell, sn_box_ball, sn_box_cell, decide_false, wFld]
  rw [setM_same]
  refine ⟨rfl, _, rfl, ?_⟩
  simp (disch := first | assumption | decide) only [wSeq, wNext, wAsg, wgName, wIfS, wB, wOp, wVar, wC, wCall, wCallK, wCons, wNil, wRet, wRetN, wDrop, wTup, wLst, wIf, wAnd, wOr, wNot, wAndV, wOrV, wNotV, wNeg, wChain, fI, fI0, addD, fLt, fLe, fGt, fGe, fIsB, wCB, fAbs, f2I, fInt, fIsq, wPar, wPar3, permD, startE, List.map_cons, List.map_nil, List.cons_append, List.nil_append, List.append_nil, List.length_cons, List.length_nil, List.replicate, List.getElem?_cons_zero, List.getElem?_cons_succ, List.set_cons_zero, List.set_cons_succ, List.getD_cons_zero, List.getD_cons_succ, Nat.reduceAdd, Nat.reduceSub, Nat.zero_add, true_and, and_true, Bool.not_true, Bool.not_false, if_true, if_false, Bool.false_eq_true, reduceIte, decide_eq_true_eq, Bool.not_eq_true', decide_eq_false_iff_not, eqV_int, eqV_str, eqV_bl, decide_true, reduceCtorEq, not_true_eq_false, not_false_eq_true, Bool.not_eq_true, List.not_mem_nil, false_implies, implies_true, Int.reduceNeg, Int.reduceToNat, Int.reducePow, Int.reduceMul, Int.reduceAdd, draw_i, ix_t0, ix_t1, ix_t2, ix_t3, ix_m3, ix_m4, sn_ball_box, sn_cell_box, sn_cell_ball, sn_ball_cell, sn_box_ball, sn_box_cell, decide_false, fIfy]
  refine ⟨_, hh, hp_ok (Nat.le_trans hl (by decide)), fun es' pm hi => ?_⟩
  obtain ⟨fs, rfl, pf⟩ := ents_of pm
  refine q p fs _ hp pf ⟨by rw [setM_ne ne, setM_same], setM_same, hi, by rw [pf.length_eq]; exact hl⟩ fun b c hb e => ?_
  have nb : b ≠ p := fun z => by rw [z, hp] at e; cases e
  rw [setM_ne nb, setM_ne hb, setM_ne nb]
  exact e
end K31
namespace K31
open PySem L2 L3
theorem wp__law_entry : ∀ ds M Q R, F__law_entry ds M Q R → W__law_entry { nx := fun _ M' => Q .non M', rt := Q, xr := lx R } (startE 2 ds) M := by
  rintro ds M Q R ⟨a, a0, rfl, hm, q⟩
  unfold W__law_entry
  have cp : CPow 10 9 := ⟨by decide, by decide, by decide⟩
  refine seq_gen fun K hK => ?_
  simp (disch := first | assumption | decide) only [wSeq, wNext, wAsg, wgName, wIfS, wB, wOp, wVar, wC, wCall, wCallK, wCons, wNil, wRet, wRetN, wDrop, wTup, wLst, wIf, wAnd, wOr, wNot, wAndV, wOrV, wNotV, wNeg, wChain, fI, fI0, addD, fLt, fLe, fGt, fGe, fIsB, wCB, fAbs, f2I, fInt, fIsq, wPar, wPar3, permD, startE, List.map_cons, List.map_nil, List.cons_append, List.nil_append, List.append_nil, List.length_cons, List.length_nil, List.replicate, List.getElem?_cons_zero, List.getElem?_cons_succ, List.set_cons_zero, List.set_cons_succ, List.getD_cons_zero, List.getD_cons_succ, Nat.reduceAdd, Nat.reduceSub, Nat.zero_add, true_and, and_true, Bool.not_true, Bool.not_false, if_true, if_false, Bool.false_eq_true, reduceIte, decide_eq_true_eq, Bool.not_eq_true', decide_eq_false_iff_not, eqV_int, eqV_str, eqV_bl, decide_true, reduceCtorEq, not_true_eq_false, not_false_eq_true, Bool.not_eq_true, List.not_mem_nil, false_implies, implies_true, Int.reduceNeg, Int.reduceToNat, Int.reducePow, Int.reduceMul, Int.reduceAdd, draw_i, ix_t0, ix_t1, ix_t2, ix_t3, ix_m3, ix_m4, sn_ball_box, sn_cell_box, sn_cell_ball, sn_ball_cell, sn_box_ball, sn_box_cell, decide_false]
  simp only [eq_true cp, true_and]
  intro i1 _ _ i2 _ _ i3 _ _ i4 _ _
  refine ⟨by decide, pick_q hm rfl (by simp) (by simp) fun x hx => ?_⟩
  obtain ⟨i, rfl⟩ : ∃ i : Int, x = .int i := by
    simp only [List.mem_cons, List.not_mem_nil, or_false] at hx
    rcases hx with rfl | rfl | rfl | rfl
    · exact ⟨_, rfl⟩
    · exact ⟨_, rfl⟩
    · exact ⟨_, rfl⟩
    · exact ⟨_, rfl⟩
  subst hK
  simp (disch := first | assumption | decide) only [wSeq, wNext, wAsg, wgName, wIfS, wB, wOp, wVar, wC, wCall, wCallK, wCons, wNil, wRet, wRetN, wDrop, wTup, wLst, wIf, wAnd, wOr, wNot, wAndV, wOrV, wNotV, wNeg, wChain, fI, fI0, addD, fLt, fLe, fGt, fGe, fIsB, wCB, fAbs, f2I, fInt, fIsq, wPar, wPar3, permD, startE, List.map_cons, List.map_nil, List.cons_append, List.nil_append, List.append_nil, List.length_cons, List.length_nil, List.replicate, List.getElem?_cons_zero, List.getElem?_cons_succ, List.set_cons_zero, List.set_cons_succ, List.getD_cons_zero, List.getD_cons_succ, Nat.reduceAdd, Nat.reduceSub, Nat.zero_add, true_and, and_true, Bool.not_true, Bool.not_false, if_true, if_false, Bool.false_eq_true, reduceIte, decide_eq_true_eq, Bool.not_eq_true', decide_eq_false_iff_not, eqV_int, eqV_str, eqV_bl, decide_true, reduceCtorEq, not_true_eq_false, not_false_eq_true, Bool.not_eq_true, List.not_mem_nil, false_implies, implies_true, Int.reduceNeg, Int.reduceToNat, Int.reducePow, Int.reduceMul, Int.reduceAdd, draw_i, ix_t0, ix_t1, ix_t2, ix_t3, ix_m3, ix_m4, sn_ball_box, sn_cell_box, sn_cell_ball, sn_ball_cell, sn_box_ball, sn_box_cell, decide_false]
  refine ⟨by decide, pick_q hm rfl (by decide) (by decide) fun x hx => ?_⟩
  simp (disch := first | assumption | decide) only [wSeq, wNext, wAsg, wgName, wIfS, wB, wOp, wVar, wC, wCall, wCallK, wCons, wNil, wRet, wRetN, wDrop, wTup, wLst, wIf, wAnd, wOr, wNot, wAndV, wOrV, wNotV, wNeg, wChain, fI, fI0, addD, fLt, fLe, fGt, fGe, fIsB, wCB, fAbs, f2I, fInt, fIsq, wPar, wPar3, permD, startE, List.map_cons, List.map_nil, List.cons_append, List.nil_append, List.append_nil, List.length_cons, List.length_nil, List.replicate, List.getElem?_cons_zero, List.getElem?_cons_succ, List.set_cons_zero, List.set_cons_succ, List.getD_cons_zero, List.getD_cons_succ, Nat.reduceAdd, Nat.reduceSub, Nat.zero_add, true_and, and_true, Bool.not_true, Bool.not_false, if_true, if_false, Bool.false_eq_true, reduceIte, decide_eq_true_eq, Bool.not_eq_true', decide_eq_false_iff_not, eqV_int, eqV_str, eqV_bl, decide_true, reduceCtorEq, not_true_eq_false, not_false_eq_true, Bool.not_eq_true, List.not_mem_nil, false_implies, implies_true, Int.reduceNeg, Int.reduceToNat, Int.reducePow, Int.reduceMul, Int.reduceAdd, draw_i, ix_t0, ix_t1, ix_t2, ix_t3, ix_m3, ix_m4, sn_ball_box, sn_cell_box, sn_cell_ball, sn_ball_cell, sn_box_ball, sn_box_cell, decide_false]
  intro c _ _
  refine ⟨by decide, ?_⟩
  simp only [List.mem_cons, List.not_mem_nil, or_false] at hx
  rcases hx with rfl | rfl
  · exact q ⟨i, false, c⟩
  · exact q ⟨i, true, c⟩
theorem caught {M : Mp} {o : Addr} {b : Bool} {Q : KD} {R : XF} {dx : Addr} (q : Q .non M) : wMixX { nx := fun _ M' => Q .non M', rt := Q, xr := lx R } [(some 2, tab_Refused, fun a y dx => (wRet (wIf (wB (wOp (eqSc false) (wXf a y dx "word" (wVar 2)) (wC (.str "empty")))) (wC .non) (wTup (wCons (wC (.str "refused")) (wCons (wXf a y dx "word" (wVar 2)) wNil)))))), (none, tab_StoreError, fun a y dx => (wRet (wTup (wCons (wC (.str "refused")) (wCons (wC (.str "another error")) wNil)))))] "Refused" dx (["word"], [.str "empty"]) [some (.tok o), some (.bl b), none] M := by
  unfold wMixX
  have t1 : tab_Refused "Refused" = some true := by decide +kernel
  rw [t1]
  intro a
  simp (disch := first | assumption | decide) only [wSeq, wNext, wAsg, wgName, wIfS, wB, wOp, wVar, wC, wCall, wCallK, wCons, wNil, wRet, wRetN, wDrop, wTup, wLst, wIf, wAnd, wOr, wNot, wAndV, wOrV, wNotV, wNeg, wChain, fI, fI0, addD, fLt, fLe, fGt, fGe, fIsB, wCB, fAbs, f2I, fInt, fIsq, wPar, wPar3, permD, startE, List.map_cons, List.map_nil, List.cons_append, List.nil_append, List.append_nil, List.length_cons, List.length_nil, List.replicate, List.getElem?_cons_zero, List.getElem?_cons_succ, List.set_cons_zero, List.set_cons_succ, List.getD_cons_zero, List.getD_cons_succ, Nat.reduceAdd, Nat.reduceSub, Nat.zero_add, true_and, and_true, Bool.not_true, Bool.not_false, if_true, if_false, Bool.false_eq_true, reduceIte, decide_eq_true_eq, Bool.not_eq_true', decide_eq_false_iff_not, eqV_int, eqV_str, eqV_bl, decide_true, reduceCtorEq, not_true_eq_false, not_false_eq_true, Bool.not_eq_true, List.not_mem_nil, false_implies, implies_true, Int.reduceNeg, Int.reduceToNat, Int.reducePow, Int.reduceMul, Int.reduceAdd, draw_i, ix_t0, ix_t1, ix_t2, ix_t3, ix_m3, ix_m4, sn_ball_box, sn_cell_box, sn_cell_ball, sn_ball_cell, sn_box_ball, sn_box_cell, decide_false, enD, atD, wXf, eqSc]
  refine ⟨.str "empty", by rfl, ?_⟩
  have e : eqS (.str "empty") (.str "empty") = some true := by decide +kernel
  rw [e]
  dsimp only
  rw [if_pos rfl]
  exact q
theorem wp__law_least : ∀ ds M Q R, F__law_least ds M Q R → W__law_least { nx := fun _ M' => Q .non M', rt := Q, xr := lx R } (startE 3 ds) M := by
  rintro ds M Q R ⟨o, h, es, b, rfl, hq, q⟩
  unfold W__law_least
  simp (disch := first | assumption | decide) only [wSeq, wNext, wAsg, wgName, wIfS, wB, wOp, wVar, wC, wCall, wCallK, wCons, wNil, wRet, wRetN, wDrop, wTup, wLst, wIf, wAnd, wOr, wNot, wAndV, wOrV, wNotV, wNeg, wChain, fI, fI0, addD, fLt, fLe, fGt, fGe, fIsB, wCB, fAbs, f2I, fInt, fIsq, wPar, wPar3, permD, startE, List.map_cons, List.map_nil, List.cons_append, List.nil_append, List.append_nil, List.length_cons, List.length_nil, List.replicate, List.getElem?_cons_zero, List.getElem?_cons_succ, List.set_cons_zero, List.set_cons_succ, List.getD_cons_zero, List.getD_cons_succ, Nat.reduceAdd, Nat.reduceSub, Nat.zero_add, true_and, and_true, Bool.not_true, Bool.not_false, if_true, if_false, Bool.false_eq_true, reduceIte, decide_eq_true_eq, Bool.not_eq_true', decide_eq_false_iff_not, eqV_int, eqV_str, eqV_bl, decide_true, reduceCtorEq, not_true_eq_false, not_false_eq_true, Bool.not_eq_true, List.not_mem_nil, false_implies, implies_true, Int.reduceNeg, Int.reduceToNat, Int.reducePow, Int.reduceMul, Int.reduceAdd, draw_i, ix_t0, ix_t1, ix_t2, ix_t3, ix_m3, ix_m4, sn_ball_box, sn_cell_box, sn_cell_ball, sn_ball_cell, sn_box_ball, sn_box_cell, decide_false, wTryMix, wRetX, wIfX, wMethX]
  have ii : ∀ m : Str, m ≠ "_heap" → isIns "Queue" m M o := fun m hm => ⟨_, hq.1, by
    rw [List.lookup_cons, beq_false_of_ne hm]
    rfl⟩
  cases es with
  | nil =>
    split
    · exact ⟨ii _ (by decide), o, h, [], rfl, hq, fun dx => caught q⟩
    · exact ⟨ii _ (by decide), o, h, [], rfl, hq, fun dx => caught q⟩
  | cons x r =>
    split
    · rename_i hb
      subst hb
      exact ⟨ii _ (by decide), o, h, x :: r, rfl, hq, fun es' pm hi => q es' pm hi⟩
    · rename_i hb
      have q : (if b = true then _ else Q x.d M) := q
      rw [if_neg hb] at q
      exact ⟨ii _ (by decide), o, h, x :: r, rfl, hq, q⟩
end K31
namespace K31
open PySem L2 L3
/-! equality of entries -/
theorem ent_inj {e f : Ent} (h : e.d = f.d) : e = f := by
  obtain ⟨a, w, c⟩ := e
  obtain ⟨a', w', c'⟩ := f
  have h : D.tup [.int a, .str (Ent.word ⟨a, w, c⟩), .int c] = D.tup [.int a', .str (Ent.word ⟨a', w', c'⟩), .int c'] := h
  simp only [D.tup.injEq, List.cons.injEq, D.int.injEq, D.str.injEq, and_true] at h
  obtain ⟨rfl, hw, rfl⟩ := h
  have ne : ("lot" : Str) ≠ "pair" := by decide
  cases w <;> cases w'
  · rfl
  · exact absurd hw ne
  · exact absurd hw.symm ne
  · rfl
theorem ent_eqv (e f : Ent) : PyData.eqv e.d.py f.d.py = true ↔ e = f := by
  constructor
  · intro h
    have k := (PySem.W.toks_eqv e.d.py f.d.py rfl).1 h
    have l : ∀ {a b : List (Int ⊕ List Nat)}, a = b → PyProof.Rows.lexLt PyProof.Rows.itemOrd a b = false := fun {a b} z => by rw [z]; exact PyProof.Rows.lex_irrefl _
    exact ent_inj (ent_anti (l k.symm) (l k))
  · intro h
    subst h
    exact PySem.W.eqv_refl_alike _ rfl
theorem alikeAll_ents : ∀ es : List Ent, PySem.W.alikeAll (pyL (es.map Ent.d)) (pyL (es.map Ent.d)) = true
  | [] => rfl
  | e :: es => by
    show (PySem.W.alike e.d.py e.d.py && PySem.W.alikeAll (pyL (es.map Ent.d)) (pyL (es.map Ent.d))) = true
    rw [alikeAll_ents es]
    rfl
theorem eq_ents {es : List Ent} {l l' : List D} {M : Mp} {Q : KD} (h : l = es.map Ent.d) (h' : l' = es.map Ent.d) (q : Q (.bl true) M) : eqV false (.tup l) (.tup l') M Q := by
  subst h
  subst h'
  refine (Iff.rfl : eqV false (.tup _) (.tup _) M Q ↔ eqD2 false (.tup _) (.tup _) M Q).mpr ⟨⟨2, by decide, ents_fit, ents_fit⟩, ?_⟩
  have e : eqD (res M (.tup (es.map Ent.d))) (res M (.tup (es.map Ent.d))) = true := PySem.W.eqv_refl_alike (.tuple (pyL (es.map Ent.d))) (alikeAll_ents es)
  rw [e]
  exact q
theorem eq_ent {e : Ent} {M : Mp} {Q : KD} (q : Q (.bl true) M) : eqV false e.d e.d M Q := by
  refine (Iff.rfl : eqV false e.d e.d M Q ↔ eqD2 false e.d e.d M Q).mpr ⟨⟨1, by decide, ent_fit e, ent_fit e⟩, ?_⟩
  have k : eqD (res M e.d) (res M e.d) = true := PySem.W.eqv_refl_alike e.d.py rfl
  rw [k]
  exact q
theorem ne_nilL {l : List D} {M : Mp} {Q : KD} (f : ∀ d ∈ l, fit 1 d) (q : Q (.bl (!l.isEmpty)) M) : eqV true (.lst l) (.lst []) M Q := by
  refine (Iff.rfl : eqV true (.lst l) (.lst []) M Q ↔ eqD2 true (.lst l) (.lst []) M Q).mpr ⟨⟨2, by decide, f, fun d hd => nomatch hd⟩, ?_⟩
  have k : eqD (res M (.lst l)) (res M (.lst [])) = l.isEmpty := by
    cases l with
    | nil => rfl
    | cons d l => rfl
  rw [k]
  exact q
theorem ne_nilT {l : List D} {M : Mp} {a : Addr} {Q : KD} (hm : M a = some (.lst l)) (f : ∀ d ∈ l, fit 1 d) (q : Q (.bl (!l.isEmpty)) M) : eqV true (.tok a) (.lst []) M Q := by
  have er : res M (.tok a) = .lst l := by
    show (match M a with | some (.lst ds) => D.lst ds | some (.dic _ _) => _ | _ => _) = _
    rw [hm]
  refine (Iff.rfl : eqV true (.tok a) (.lst []) M Q ↔ eqD2 true (.tok a) (.lst []) M Q).mpr ⟨⟨2, by decide, by rw [er]; exact f, fun d hd => nomatch hd⟩, ?_⟩
  have k : eqD (res M (.tok a)) (res M (.lst [])) = l.isEmpty := by
    rw [er]
    cases l with
    | nil => rfl
    | cons d l => rfl
  rw [k]
  exact q
theorem qAt.set {M : Mp} {o h u : Addr} {es : List Ent} {c : Cell} (k : qAt M o h es) (h1 : u ≠ o) (h2 : u ≠ h) : qAt (setM M u c) o h es := ⟨by rw [setM_ne (Ne.symm h1)]; exact k.1, by rw [setM_ne (Ne.symm h2)]; exact k.2.1, k.2.2⟩
theorem qAt.ne {M : Mp} {o h : Addr} {es : List Ent} (k : qAt M o h es) : o ≠ h := fun z => by
  have e := k.2.1
  rw [← z, k.1] at e
  cases e
theorem qAt.put {M : Mp} {o h : Addr} {es es' : List Ent} (k : qAt M o h es) (hi : isHp (es'.map Ent.d)) (hl : es'.length ≤ 1000) : qAt (setM M h (.lst (es'.map Ent.d))) o h es' := ⟨by rw [setM_ne k.ne]; exact k.1, setM_same, hi, hl⟩
/-- where an entry first stands -/
theorem first_ent {x : Ent} : ∀ {due : List Ent}, x ∈ due → ∃ j, j < due.length ∧ (∀ i e, (due.map Ent.d)[i]? = some e → i ≤ j → PyData.eqv e.py x.d.py = decide (i = j)) ∧ (x :: due.eraseIdx j).Perm due
  | [], h => by cases h
  | y :: due, h => by
    by_cases e : y = x
    · subst e
      refine ⟨0, Nat.succ_pos _, fun i d hd hi => ?_, List.Perm.refl _⟩
      obtain rfl : i = 0 := by omega
      cases hd
      exact (ent_eqv y y).mpr rfl
    · obtain ⟨j, j1, j2, j3⟩ := first_ent (x := x) (due := due) (by
        rcases List.mem_cons.mp h with z | z
        · exact absurd z.symm e
        · exact z)
      refine ⟨j + 1, Nat.succ_lt_succ j1, fun i d hd hi => ?_, ?_⟩
      · cases i with
        | zero =>
          cases hd
          rw [decide_eq_false (by omega)]
          exact Bool.eq_false_iff.mpr fun z => e ((ent_eqv y x).mp z)
        | succ i =>
          rw [j2 i d hd (by omega)]
          exact decide_eq_decide.mpr (by omega)
      · show (x :: y :: due.eraseIdx j).Perm (y :: due)
        exact (List.Perm.swap y x _).trans (j3.cons y)
end K31
namespace K31
open PySem L2 L3
theorem ite_both {c : Prop} [Decidable c] {a b : Prop} (h : c → a) (h' : ¬ c → b) : if c then a else b := by
  by_cases e : c
  · rw [if_pos e]
    exact h e
  · rw [if_neg e]
    exact h' e
theorem ii {M : Mp} {o h : Addr} {es : List Ent} (hq : qAt M o h es) (m : Str) (hm : m ≠ "_heap") : isIns "Queue" m M o := ⟨_, hq.1, by
    rw [List.lookup_cons, beq_false_of_ne hm]
    rfl⟩
theorem eqq_non {M : Mp} {Q : KD} (q : Q (.bl true) M) : eqV false .non .non M Q := by
  refine (Iff.rfl : eqV false .non .non M Q ↔ eqD2 false .non .non M Q).mpr ⟨⟨0, by decide, True.intro, True.intro⟩, ?_⟩
  have k : eqD (res M .non) (res M .non) = true := by
    show eqD .non .non = true
    decide +kernel
  rw [k]
  exact q
theorem eqq_int {M : Mp} {Q : KD} {i j : Int} (q : Q (.bl (decide (i = j))) M) : eqV false (.int i) (.int j) M Q := q
theorem wp__law_deed : ∀ ds M Q R, F__law_deed ds M Q R → W__law_deed { nx := fun _ M' => Q .non M', rt := Q, xr := lx R } (startE 7 ds) M := by
  rintro ds M Q R ⟨a, a0, o, h, u, es, due, rfl, hm, hq, hu, pd, nuh, hl, q⟩
  unfold W__law_deed
  refine seq_gen fun K hK => ?_
  simp (disch := first | assumption | decide) only [wSeq, wNext, wAsg, wgName, wIfS, wB, wOp, wVar, wC, wCall, wCallK, wCons, wNil, wRet, wRetN, wDrop, wTup, wLst, wIf, wAnd, wOr, wNot, wAndV, wOrV, wNotV, wNeg, wChain, fI, fI0, addD, fLt, fLe, fGt, fGe, fIsB, wCB, fAbs, f2I, fInt, fIsq, wPar, wPar3, permD, startE, List.map_cons, List.map_nil, List.cons_append, List.nil_append, List.append_nil, List.length_cons, List.length_nil, List.replicate, List.getElem?_cons_zero, List.getElem?_cons_succ, List.set_cons_zero, List.set_cons_succ, List.getD_cons_zero, List.getD_cons_succ, Nat.reduceAdd, Nat.reduceSub, Nat.zero_add, true_and, and_true, Bool.not_true, Bool.not_false, if_true, if_false, Bool.false_eq_true, reduceIte, decide_eq_true_eq, Bool.not_eq_true', decide_eq_false_iff_not, eqV_int, eqV_str, eqV_bl, decide_true, reduceCtorEq, not_true_eq_false, not_false_eq_true, Bool.not_eq_true, List.not_mem_nil, false_implies, implies_true, Int.reduceNeg, Int.reduceToNat, Int.reducePow, Int.reduceMul, Int.reduceAdd, draw_i, ix_t0, ix_t1, ix_t2, ix_t3, ix_m3, ix_m4, sn_ball_box, sn_cell_box, sn_cell_ball, sn_ball_cell, sn_box_ball, sn_box_cell, decide_false]
  intro kind k0 k1
  subst hK
  refine seq_gen fun K hK => ?_
  simp (disch := first | assumption | decide) only [wSeq, wNext, wAsg, wgName, wIfS, wB, wOp, wVar, wC, wCall, wCallK, wCons, wNil, wRet, wRetN, wDrop, wTup, wLst, wIf, wAnd, wOr, wNot, wAndV, wOrV, wNotV, wNeg, wChain, fI, fI0, addD, fLt, fLe, fGt, fGe, fIsB, wCB, fAbs, f2I, fInt, fIsq, wPar, wPar3, permD, startE, List.map_cons, List.map_nil, List.cons_append, List.nil_append, List.append_nil, List.length_cons, List.length_nil, List.replicate, List.getElem?_cons_zero, List.getElem?_cons_succ, List.set_cons_zero, List.set_cons_succ, List.getD_cons_zero, List.getD_cons_succ, Nat.reduceAdd, Nat.reduceSub, Nat.zero_add, true_and, and_true, Bool.not_true, Bool.not_false, if_true, if_false, Bool.false_eq_true, reduceIte, decide_eq_true_eq, Bool.not_eq_true', decide_eq_false_iff_not, eqV_int, eqV_str, eqV_bl, decide_true, reduceCtorEq, not_true_eq_false, not_false_eq_true, Bool.not_eq_true, List.not_mem_nil, false_implies, implies_true, Int.reduceNeg, Int.reduceToNat, Int.reducePow, Int.reduceMul, Int.reduceAdd, draw_i, ix_t0, ix_t1, ix_t2, ix_t3, ix_m3, ix_m4, sn_ball_box, sn_cell_box, sn_cell_ball, sn_ball_cell, sn_box_ball, sn_box_cell, decide_false]
  have nuo : u ≠ o := fun z => by rw [z, hq.1] at hu; cases hu
  have noh := hq.ne
  have ld : due.length = es.length := pd.length_eq
  have same : (∀ b c, b ≠ o → b ≠ h → b ≠ u → M b = some c → M b = some c) := fun _ _ _ _ _ e => e
  refine ite_both ?_ ?_
  · intro hk
    refine ⟨a, a0, rfl, hm, fun e => ?_⟩
    simp (disch := first | assumption | decide) only [wSeq, wNext, wAsg, wgName, wIfS, wB, wOp, wVar, wC, wCall, wCallK, wCons, wNil, wRet, wRetN, wDrop, wTup, wLst, wIf, wAnd, wOr, wNot, wAndV, wOrV, wNotV, wNeg, wChain, fI, fI0, addD, fLt, fLe, fGt, fGe, fIsB, wCB, fAbs, f2I, fInt, fIsq, wPar, wPar3, permD, startE, List.map_cons, List.map_nil, List.cons_append, List.nil_append, List.append_nil, List.length_cons, List.length_nil, List.replicate, List.getElem?_cons_zero, List.getElem?_cons_succ, List.set_cons_zero, List.set_cons_succ, List.getD_cons_zero, List.getD_cons_succ, Nat.reduceAdd, Nat.reduceSub, Nat.zero_add, true_and, and_true, Bool.not_true, Bool.not_false, if_true, if_false, Bool.false_eq_true, reduceIte, decide_eq_true_eq, Bool.not_eq_true', decide_eq_false_iff_not, eqV_int, eqV_str, eqV_bl, decide_true, reduceCtorEq, not_true_eq_false, not_false_eq_true, Bool.not_eq_true, List.not_mem_nil, false_implies, implies_true, Int.reduceNeg, Int.reduceToNat, Int.reducePow, Int.reduceMul, Int.reduceAdd, draw_i, ix_t0, ix_t1, ix_t2, ix_t3, ix_m3, ix_m4, sn_ball_box, sn_cell_box, sn_cell_ball, sn_ball_cell, sn_box_ball, sn_box_cell, decide_false, wApp]
    refine ⟨⟨_, hu⟩, _, hu, ?_, ?_⟩
    · rw [List.length_map, ld]
      exact Nat.lt_of_le_of_lt hl (by decide)
    have eu : due.map Ent.d ++ [e.d] = (due ++ [e]).map Ent.d := by rw [List.map_append]; rfl
    rw [eu]
    have hq1 := hq.set (c := .lst ((due ++ [e]).map Ent.d)) nuo nuh
    simp (disch := first | assumption | decide) only [wSeq, wNext, wAsg, wgName, wIfS, wB, wOp, wVar, wC, wCall, wCallK, wCons, wNil, wRet, wRetN, wDrop, wTup, wLst, wIf, wAnd, wOr, wNot, wAndV, wOrV, wNotV, wNeg, wChain, fI, fI0, addD, fLt, fLe, fGt, fGe, fIsB, wCB, fAbs, f2I, fInt, fIsq, wPar, wPar3, permD, startE, List.map_cons, List.map_nil, List.cons_append, List.nil_append, List.append_nil, List.length_cons, List.length_nil, List.replicate, List.getElem?_cons_zero, List.getElem?_cons_succ, List.set_cons_zero, List.set_cons_succ, List.getD_cons_zero, List.getD_cons_succ, Nat.reduceAdd, Nat.reduceSub, Nat.zero_add, true_and, and_true, Bool.not_true, Bool.not_false, if_true, if_false, Bool.false_eq_true, reduceIte, decide_eq_true_eq, Bool.not_eq_true', decide_eq_false_iff_not, eqV_int, eqV_str, eqV_bl, decide_true, reduceCtorEq, not_true_eq_false, not_false_eq_true, Bool.not_eq_true, List.not_mem_nil, false_implies, implies_true, Int.reduceNeg, Int.reduceToNat, Int.reducePow, Int.reduceMul, Int.reduceAdd, draw_i, ix_t0, ix_t1, ix_t2, ix_t3, ix_m3, ix_m4, sn_ball_box, sn_cell_box, sn_cell_ball, sn_ball_cell, sn_box_ball, sn_box_cell, decide_false, wMeth]
    refine ⟨ii hq1 _ (by decide), o, h, es, e, rfl, hq1, hl, fun es' pm hi => ?_⟩
    simp (disch := first | assumption | decide) only [wSeq, wNext, wAsg, wgName, wIfS, wB, wOp, wVar, wC, wCall, wCallK, wCons, wNil, wRet, wRetN, wDrop, wTup, wLst, wIf, wAnd, wOr, wNot, wAndV, wOrV, wNotV, wNeg, wChain, fI, fI0, addD, fLt, fLe, fGt, fGe, fIsB, wCB, fAbs, f2I, fInt, fIsq, wPar, wPar3, permD, startE, List.map_cons, List.map_nil, List.cons_append, List.nil_append, List.append_nil, List.length_cons, List.length_nil, List.replicate, List.getElem?_cons_zero, List.getElem?_cons_succ, List.set_cons_zero, List.set_cons_succ, List.getD_cons_zero, List.getD_cons_succ, Nat.reduceAdd, Nat.reduceSub, Nat.zero_add, true_and, and_true, Bool.not_true, Bool.not_false, if_true, if_false, Bool.false_eq_true, reduceIte, decide_eq_true_eq, Bool.not_eq_true', decide_eq_false_iff_not, eqV_int, eqV_str, eqV_bl, decide_true, reduceCtorEq, not_true_eq_false, not_false_eq_true, Bool.not_eq_true, List.not_mem_nil, false_implies, implies_true, Int.reduceNeg, Int.reduceToNat, Int.reducePow, Int.reduceMul, Int.reduceAdd, draw_i, ix_t0, ix_t1, ix_t2, ix_t3, ix_m3, ix_m4, sn_ball_box, sn_cell_box, sn_cell_ball, sn_ball_cell, sn_box_ball, sn_box_cell, decide_false, fIsN]
    have le : es'.length = es.length + 1 := by rw [pm.length_eq, List.length_append, List.length_singleton]
    refine q _ h es' (due ++ [e]) (hq1.put hi (by omega)) (by rw [setM_ne nuh, setM_same]) ((pd.append_right [e]).trans pm.symm) nuh (by rw [List.length_append, List.length_singleton]; exact Nat.le_refl _) (.inl rfl) fun b c b1 b2 b3 hb => ?_
    rw [setM_ne b2, setM_ne b3]
    exact hb
  · intro hk
    subst hK
    refine seq_gen fun K hK => ?_
    simp (disch := first | assumption | decide) only [wSeq, wNext, wAsg, wgName, wIfS, wB, wOp, wVar, wC, wCall, wCallK, wCons, wNil, wRet, wRetN, wDrop, wTup, wLst, wIf, wAnd, wOr, wNot, wAndV, wOrV, wNotV, wNeg, wChain, fI, fI0, addD, fLt, fLe, fGt, fGe, fIsB, wCB, fAbs, f2I, fInt, fIsq, wPar, wPar3, permD, startE, List.map_cons, List.map_nil, List.cons_append, List.nil_append, List.append_nil, List.length_cons, List.length_nil, List.replicate, List.getElem?_cons_zero, List.getElem?_cons_succ, List.set_cons_zero, List.set_cons_succ, List.getD_cons_zero, List.getD_cons_succ, Nat.reduceAdd, Nat.reduceSub, Nat.zero_add, true_and, and_true, Bool.not_true, Bool.not_false, if_true, if_false, Bool.false_eq_true, reduceIte, decide_eq_true_eq, Bool.not_eq_true', decide_eq_false_iff_not, eqV_int, eqV_str, eqV_bl, decide_true, reduceCtorEq, not_true_eq_false, not_false_eq_true, Bool.not_eq_true, List.not_mem_nil, false_implies, implies_true, Int.reduceNeg, Int.reduceToNat, Int.reducePow, Int.reduceMul, Int.reduceAdd, draw_i, ix_t0, ix_t1, ix_t2, ix_t3, ix_m3, ix_m4, sn_ball_box, sn_cell_box, sn_cell_ball, sn_ball_cell, sn_box_ball, sn_box_cell, decide_false]
    refine srt_ok ⟨u, .inl rfl⟩ (seq_h hu) ?_
    rw [srt_eq pd]
    subst hK
    refine seq_gen fun K hK => ?_
    simp (disch := first | assumption | decide) only [wSeq, wNext, wAsg, wgName, wIfS, wB, wOp, wVar, wC, wCall, wCallK, wCons, wNil, wRet, wRetN, wDrop, wTup, wLst, wIf, wAnd, wOr, wNot, wAndV, wOrV, wNotV, wNeg, wChain, fI, fI0, addD, fLt, fLe, fGt, fGe, fIsB, wCB, fAbs, f2I, fInt, fIsq, wPar, wPar3, permD, startE, List.map_cons, List.map_nil, List.cons_append, List.nil_append, List.append_nil, List.length_cons, List.length_nil, List.replicate, List.getElem?_cons_zero, List.getElem?_cons_succ, List.set_cons_zero, List.set_cons_succ, List.getD_cons_zero, List.getD_cons_succ, Nat.reduceAdd, Nat.reduceSub, Nat.zero_add, true_and, and_true, Bool.not_true, Bool.not_false, if_true, if_false, Bool.false_eq_true, reduceIte, decide_eq_true_eq, Bool.not_eq_true', decide_eq_false_iff_not, eqV_int, eqV_str, eqV_bl, decide_true, reduceCtorEq, not_true_eq_false, not_false_eq_true, Bool.not_eq_true, List.not_mem_nil, false_implies, implies_true, Int.reduceNeg, Int.reduceToNat, Int.reducePow, Int.reduceMul, Int.reduceAdd, draw_i, ix_t0, ix_t1, ix_t2, ix_t3, ix_m3, ix_m4, sn_ball_box, sn_cell_box, sn_cell_ball, sn_ball_cell, sn_box_ball, sn_box_cell, decide_false]
    refine ite_both ?_ ?_
    · intro hk2
      refine ⟨o, h, es, true, rfl, hq, ?_⟩
      cases es with
      | nil =>
        have ed : due = [] := List.perm_nil.mp pd
        subst ed
        have e0 : srtD (([] : List Ent).map Ent.d) = [] := by simp [srtD]
        rw [e0]
        dsimp only
        refine ⟨by decide, ne_nilL (fun d hd => nomatch hd) ?_⟩
        simp (disch := first | assumption | decide) only [wSeq, wNext, wAsg, wgName, wIfS, wB, wOp, wVar, wC, wCall, wCallK, wCons, wNil, wRet, wRetN, wDrop, wTup, wLst, wIf, wAnd, wOr, wNot, wAndV, wOrV, wNotV, wNeg, wChain, fI, fI0, addD, fLt, fLe, fGt, fGe, fIsB, wCB, fAbs, f2I, fInt, fIsq, wPar, wPar3, permD, startE, List.map_cons, List.map_nil, List.cons_append, List.nil_append, List.append_nil, List.length_cons, List.length_nil, List.replicate, List.getElem?_cons_zero, List.getElem?_cons_succ, List.set_cons_zero, List.set_cons_succ, List.getD_cons_zero, List.getD_cons_succ, Nat.reduceAdd, Nat.reduceSub, Nat.zero_add, true_and, and_true, Bool.not_true, Bool.not_false, if_true, if_false, Bool.false_eq_true, reduceIte, decide_eq_true_eq, Bool.not_eq_true', decide_eq_false_iff_not, eqV_int, eqV_str, eqV_bl, decide_true, reduceCtorEq, not_true_eq_false, not_false_eq_true, Bool.not_eq_true, List.not_mem_nil, false_implies, implies_true, Int.reduceNeg, Int.reduceToNat, Int.reducePow, Int.reduceMul, Int.reduceAdd, draw_i, ix_t0, ix_t1, ix_t2, ix_t3, ix_m3, ix_m4, sn_ball_box, sn_cell_box, sn_cell_ball, sn_ball_cell, sn_box_ball, sn_box_cell, decide_false]
        refine ⟨by decide, ne_nilL (fun d hd => nomatch hd) ?_⟩
        simp (disch := first | assumption | decide) only [wSeq, wNext, wAsg, wgName, wIfS, wB, wOp, wVar, wC, wCall, wCallK, wCons, wNil, wRet, wRetN, wDrop, wTup, wLst, wIf, wAnd, wOr, wNot, wAndV, wOrV, wNotV, wNeg, wChain, fI, fI0, addD, fLt, fLe, fGt, fGe, fIsB, wCB, fAbs, f2I, fInt, fIsq, wPar, wPar3, permD, startE, List.map_cons, List.map_nil, List.cons_append, List.nil_append, List.append_nil, List.length_cons, List.length_nil, List.replicate, List.getElem?_cons_zero, List.getElem?_cons_succ, List.set_cons_zero, List.set_cons_succ, List.getD_cons_zero, List.getD_cons_succ, Nat.reduceAdd, Nat.reduceSub, Nat.zero_add, true_and, and_true, Bool.not_true, Bool.not_false, if_true, if_false, Bool.false_eq_true, reduceIte, decide_eq_true_eq, Bool.not_eq_true', decide_eq_false_iff_not, eqV_int, eqV_str, eqV_bl, decide_true, reduceCtorEq, not_true_eq_false, not_false_eq_true, Bool.not_eq_true, List.not_mem_nil, false_implies, implies_true, Int.reduceNeg, Int.reduceToNat, Int.reducePow, Int.reduceMul, Int.reduceAdd, draw_i, ix_t0, ix_t1, ix_t2, ix_t3, ix_m3, ix_m4, sn_ball_box, sn_cell_box, sn_cell_ball, sn_ball_cell, sn_box_ball, sn_box_cell, decide_false]
        refine eqq_non ?_
        exact q M h [] [] hq hu (List.Perm.refl _) nuh (Nat.zero_le _) (.inl rfl) same
      | cons x r =>
        rw [srt_cons hq.2.2.1]
        have sf : ∀ d ∈ x.d :: srtD (r.map Ent.d), fit 1 d := fun d hd => by
          rcases List.mem_cons.mp hd with rfl | hd
          · exact ent_fit x
          · exact ents_fit d ((srt_pm _).mem_iff.mp hd)
        dsimp only
        rw [if_pos rfl]
        intro es' pm hi
        refine ⟨by decide, ne_nilL sf ?_⟩
        simp (disch := first | assumption | decide) only [wSeq, wNext, wAsg, wgName, wIfS, wB, wOp, wVar, wC, wCall, wCallK, wCons, wNil, wRet, wRetN, wDrop, wTup, wLst, wIf, wAnd, wOr, wNot, wAndV, wOrV, wNotV, wNeg, wChain, fI, fI0, addD, fLt, fLe, fGt, fGe, fIsB, wCB, fAbs, f2I, fInt, fIsq, wPar, wPar3, permD, startE, List.map_cons, List.map_nil, List.cons_append, List.nil_append, List.append_nil, List.length_cons, List.length_nil, List.replicate, List.getElem?_cons_zero, List.getElem?_cons_succ, List.set_cons_zero, List.set_cons_succ, List.getD_cons_zero, List.getD_cons_succ, Nat.reduceAdd, Nat.reduceSub, Nat.zero_add, true_and, and_true, Bool.not_true, Bool.not_false, if_true, if_false, Bool.false_eq_true, reduceIte, decide_eq_true_eq, Bool.not_eq_true', decide_eq_false_iff_not, eqV_int, eqV_str, eqV_bl, decide_true, reduceCtorEq, not_true_eq_false, not_false_eq_true, Bool.not_eq_true, List.not_mem_nil, false_implies, implies_true, Int.reduceNeg, Int.reduceToNat, Int.reducePow, Int.reduceMul, Int.reduceAdd, draw_i, ix_t0, ix_t1, ix_t2, ix_t3, ix_m3, ix_m4, sn_ball_box, sn_cell_box, sn_cell_ball, sn_ball_cell, sn_box_ball, sn_box_cell, decide_false, List.isEmpty_cons, wRemD]
        have hu1 : setM M h (.lst (es'.map Ent.d)) u = some (.lst (due.map Ent.d)) := by rw [setM_ne nuh]; exact hu
        refine ⟨⟨_, hu1⟩, _, _, rfl, at0, ?_⟩
        obtain ⟨j, j1, j2, j3⟩ := first_ent (x := x) (due := due) (pd.mem_iff.mpr List.mem_cons_self)
        refine ⟨_, 1, j, hu1, by decide, ents_fit, ent_fit x, by rw [List.length_map]; exact j1, j2, ?_⟩
        rw [map_erIdx]
        refine ⟨by decide, ne_nilL sf ?_⟩
        simp (disch := first | assumption | decide) only [wSeq, wNext, wAsg, wgName, wIfS, wB, wOp, wVar, wC, wCall, wCallK, wCons, wNil, wRet, wRetN, wDrop, wTup, wLst, wIf, wAnd, wOr, wNot, wAndV, wOrV, wNotV, wNeg, wChain, fI, fI0, addD, fLt, fLe, fGt, fGe, fIsB, wCB, fAbs, f2I, fInt, fIsq, wPar, wPar3, permD, startE, List.map_cons, List.map_nil, List.cons_append, List.nil_append, List.append_nil, List.length_cons, List.length_nil, List.replicate, List.getElem?_cons_zero, List.getElem?_cons_succ, List.set_cons_zero, List.set_cons_succ, List.getD_cons_zero, List.getD_cons_succ, Nat.reduceAdd, Nat.reduceSub, Nat.zero_add, true_and, and_true, Bool.not_true, Bool.not_false, if_true, if_false, Bool.false_eq_true, reduceIte, decide_eq_true_eq, Bool.not_eq_true', decide_eq_false_iff_not, eqV_int, eqV_str, eqV_bl, decide_true, reduceCtorEq, not_true_eq_false, not_false_eq_true, Bool.not_eq_true, List.not_mem_nil, false_implies, implies_true, Int.reduceNeg, Int.reduceToNat, Int.reducePow, Int.reduceMul, Int.reduceAdd, draw_i, ix_t0, ix_t1, ix_t2, ix_t3, ix_m3, ix_m4, sn_ball_box, sn_cell_box, sn_cell_ball, sn_ball_cell, sn_box_ball, sn_box_cell, decide_false, List.isEmpty_cons]
        refine ⟨_, _, rfl, at0, eq_ent ?_⟩
        have pr : (due.eraseIdx j).Perm r := List.Perm.cons_inv (j3.trans pd)
        have hl' : es'.length ≤ 1000 := by
          rw [pm.length_eq]
          have := hq.2.2.2
          rw [List.length_cons] at this
          omega
        have hq2 : qAt (setM (setM M h (.lst (es'.map Ent.d))) u (.lst ((due.eraseIdx j).map Ent.d))) o h es' := (hq.put hi hl').set nuo nuh
        refine q _ h es' (due.eraseIdx j) hq2 setM_same (pr.trans pm.symm) nuh (by have := List.length_eraseIdx_le (l := due) (i := j); omega) (.inl rfl) fun b c b1 b2 b3 hb => ?_
        rw [setM_ne b3, setM_ne b2]
        exact hb
    · intro hk2
      subst hK
      refine seq_gen fun K hK => ?_
      simp (disch := first | assumption | decide) only [wSeq, wNext, wAsg, wgName, wIfS, wB, wOp, wVar, wC, wCall, wCallK, wCons, wNil, wRet, wRetN, wDrop, wTup, wLst, wIf, wAnd, wOr, wNot, wAndV, wOrV, wNotV, wNeg, wChain, fI, fI0, addD, fLt, fLe, fGt, fGe, fIsB, wCB, fAbs, f2I, fInt, fIsq, wPar, wPar3, permD, startE, List.map_cons, List.map_nil, List.cons_append, List.nil_append, List.append_nil, List.length_cons, List.length_nil, List.replicate, List.getElem?_cons_zero, List.getElem?_cons_succ, List.set_cons_zero, List.set_cons_succ, List.getD_cons_zero, List.getD_cons_succ, Nat.reduceAdd, Nat.reduceSub, Nat.zero_add, true_and, and_true, Bool.not_true, Bool.not_false, if_true, if_false, Bool.false_eq_true, reduceIte, decide_eq_true_eq, Bool.not_eq_true', decide_eq_false_iff_not, eqV_int, eqV_str, eqV_bl, decide_true, reduceCtorEq, not_true_eq_false, not_false_eq_true, Bool.not_eq_true, List.not_mem_nil, false_implies, implies_true, Int.reduceNeg, Int.reduceToNat, Int.reducePow, Int.reduceMul, Int.reduceAdd, draw_i, ix_t0, ix_t1, ix_t2, ix_t3, ix_m3, ix_m4, sn_ball_box, sn_cell_box, sn_cell_ball, sn_ball_cell, sn_box_ball, sn_box_cell, decide_false]
      refine ite_both ?_ ?_
      · intro hk3
        refine ⟨o, h, es, false, rfl, hq, ?_⟩
        have fin : ∀ {X : Nat}, wMeth "Queue" "listed" F_Queue_listed (wVar 1) wNil [some (.tok a), some (.tok o), some (.tok u), some (.int kind), some (.lst (srtD (es.map Ent.d))), none, none] M fun d M1 => fTuple [.lst (srtD (es.map Ent.d))] M1 fun e M2 => eqV false d e M2 Q := fun {X} => by
          simp (disch := first | assumption | decide) only [wSeq, wNext, wAsg, wgName, wIfS, wB, wOp, wVar, wC, wCall, wCallK, wCons, wNil, wRet, wRetN, wDrop, wTup, wLst, wIf, wAnd, wOr, wNot, wAndV, wOrV, wNotV, wNeg, wChain, fI, fI0, addD, fLt, fLe, fGt, fGe, fIsB, wCB, fAbs, f2I, fInt, fIsq, wPar, wPar3, permD, startE, List.map_cons, List.map_nil, List.cons_append, List.nil_append, List.append_nil, List.length_cons, List.length_nil, List.replicate, List.getElem?_cons_zero, List.getElem?_cons_succ, List.set_cons_zero, List.set_cons_succ, List.getD_cons_zero, List.getD_cons_succ, Nat.reduceAdd, Nat.reduceSub, Nat.zero_add, true_and, and_true, Bool.not_true, Bool.not_false, if_true, if_false, Bool.false_eq_true, reduceIte, decide_eq_true_eq, Bool.not_eq_true', decide_eq_false_iff_not, eqV_int, eqV_str, eqV_bl, decide_true, reduceCtorEq, not_true_eq_false, not_false_eq_true, Bool.not_eq_true, List.not_mem_nil, false_implies, implies_true, Int.reduceNeg, Int.reduceToNat, Int.reducePow, Int.reduceMul, Int.reduceAdd, draw_i, ix_t0, ix_t1, ix_t2, ix_t3, ix_m3, ix_m4, sn_ball_box, sn_cell_box, sn_cell_ball, sn_ball_cell, sn_box_ball, sn_box_cell, decide_false, wMeth]
          refine ⟨ii hq _ (by decide), o, h, es, rfl, hq, ?_⟩
          simp (disch := first | assumption | decide) only [wSeq, wNext, wAsg, wgName, wIfS, wB, wOp, wVar, wC, wCall, wCallK, wCons, wNil, wRet, wRetN, wDrop, wTup, wLst, wIf, wAnd, wOr, wNot, wAndV, wOrV, wNotV, wNeg, wChain, fI, fI0, addD, fLt, fLe, fGt, fGe, fIsB, wCB, fAbs, f2I, fInt, fIsq, wPar, wPar3, permD, startE, List.map_cons, List.map_nil, List.cons_append, List.nil_append, List.append_nil, List.length_cons, List.length_nil, List.replicate, List.getElem?_cons_zero, List.getElem?_cons_succ, List.set_cons_zero, List.set_cons_succ, List.getD_cons_zero, List.getD_cons_succ, Nat.reduceAdd, Nat.reduceSub, Nat.zero_add, true_and, and_true, Bool.not_true, Bool.not_false, if_true, if_false, Bool.false_eq_true, reduceIte, decide_eq_true_eq, Bool.not_eq_true', decide_eq_false_iff_not, eqV_int, eqV_str, eqV_bl, decide_true, reduceCtorEq, not_true_eq_false, not_false_eq_true, Bool.not_eq_true, List.not_mem_nil, false_implies, implies_true, Int.reduceNeg, Int.reduceToNat, Int.reducePow, Int.reduceMul, Int.reduceAdd, draw_i, ix_t0, ix_t1, ix_t2, ix_t3, ix_m3, ix_m4, sn_ball_box, sn_cell_box, sn_cell_ball, sn_ball_cell, sn_box_ball, sn_box_cell, decide_false, fTuple]
          refine ⟨_, rfl, ?_⟩
          obtain ⟨fs, ef, pf⟩ := ents_of (srt_pm (es.map Ent.d))
          rw [ef]
          exact eq_ents (es := fs) rfl rfl (q M h es due hq hu pd nuh (by omega) (.inl rfl) same)
        cases es with
        | nil =>
          have e0 : srtD (([] : List Ent).map Ent.d) = [] := by simp [srtD]
          rw [e0] at fin ⊢
          dsimp only
          refine ⟨by decide, ne_nilL (fun d hd => nomatch hd) ?_⟩
          simp (disch := first | assumption | decide) only [wSeq, wNext, wAsg, wgName, wIfS, wB, wOp, wVar, wC, wCall, wCallK, wCons, wNil, wRet, wRetN, wDrop, wTup, wLst, wIf, wAnd, wOr, wNot, wAndV, wOrV, wNotV, wNeg, wChain, fI, fI0, addD, fLt, fLe, fGt, fGe, fIsB, wCB, fAbs, f2I, fInt, fIsq, wPar, wPar3, permD, startE, List.map_cons, List.map_nil, List.cons_append, List.nil_append, List.append_nil, List.length_cons, List.length_nil, List.replicate, List.getElem?_cons_zero, List.getElem?_cons_succ, List.set_cons_zero, List.set_cons_succ, List.getD_cons_zero, List.getD_cons_succ, Nat.reduceAdd, Nat.reduceSub, Nat.zero_add, true_and, and_true, Bool.not_true, Bool.not_false, if_true, if_false, Bool.false_eq_true, reduceIte, decide_eq_true_eq, Bool.not_eq_true', decide_eq_false_iff_not, eqV_int, eqV_str, eqV_bl, decide_true, reduceCtorEq, not_true_eq_false, not_false_eq_true, Bool.not_eq_true, List.not_mem_nil, false_implies, implies_true, Int.reduceNeg, Int.reduceToNat, Int.reducePow, Int.reduceMul, Int.reduceAdd, draw_i, ix_t0, ix_t1, ix_t2, ix_t3, ix_m3, ix_m4, sn_ball_box, sn_cell_box, sn_cell_ball, sn_ball_cell, sn_box_ball, sn_box_cell, decide_false, List.isEmpty_nil]
          refine eqq_non ?_
          exact fin (X := 0)
        | cons x r =>
          rw [srt_cons hq.2.2.1] at fin ⊢
          have sf : ∀ d ∈ x.d :: srtD (r.map Ent.d), fit 1 d := fun d hd => by
            rcases List.mem_cons.mp hd with rfl | hd
            · exact ent_fit x
            · exact ents_fit d ((srt_pm _).mem_iff.mp hd)
          dsimp only
          rw [if_neg Bool.false_ne_true]
          refine ⟨by decide, ne_nilL sf ?_⟩
          simp (disch := first | assumption | decide) only [wSeq, wNext, wAsg, wgName, wIfS, wB, wOp, wVar, wC, wCall, wCallK, wCons, wNil, wRet, wRetN, wDrop, wTup, wLst, wIf, wAnd, wOr, wNot, wAndV, wOrV, wNotV, wNeg, wChain, fI, fI0, addD, fLt, fLe, fGt, fGe, fIsB, wCB, fAbs, f2I, fInt, fIsq, wPar, wPar3, permD, startE, List.map_cons, List.map_nil, List.cons_append, List.nil_append, List.append_nil, List.length_cons, List.length_nil, List.replicate, List.getElem?_cons_zero, List.getElem?_cons_succ, List.set_cons_zero, List.set_cons_succ, List.getD_cons_zero, List.getD_cons_succ, Nat.reduceAdd, Nat.reduceSub, Nat.zero_add, true_and, and_true, Bool.not_true, Bool.not_false, if_true, if_false, Bool.false_eq_true, reduceIte, decide_eq_true_eq, Bool.not_eq_true', decide_eq_false_iff_not, eqV_int, eqV_str, eqV_bl, decide_true, reduceCtorEq, not_true_eq_false, not_false_eq_true, Bool.not_eq_true, List.not_mem_nil, false_implies, implies_true, Int.reduceNeg, Int.reduceToNat, Int.reducePow, Int.reduceMul, Int.reduceAdd, draw_i, ix_t0, ix_t1, ix_t2, ix_t3, ix_m3, ix_m4, sn_ball_box, sn_cell_box, sn_cell_ball, sn_ball_cell, sn_box_ball, sn_box_cell, decide_false, List.isEmpty_cons]
          exact ⟨_, _, rfl, at0, eq_ent (fin (X := 0))⟩
      · intro hk3
        subst hK
        refine seq_gen fun K hK => ?_
        simp (disch := first | assumption | decide) only [wSeq, wNext, wAsg, wgName, wIfS, wB, wOp, wVar, wC, wCall, wCallK, wCons, wNil, wRet, wRetN, wDrop, wTup, wLst, wIf, wAnd, wOr, wNot, wAndV, wOrV, wNotV, wNeg, wChain, fI, fI0, addD, fLt, fLe, fGt, fGe, fIsB, wCB, fAbs, f2I, fInt, fIsq, wPar, wPar3, permD, startE, List.map_cons, List.map_nil, List.cons_append, List.nil_append, List.append_nil, List.length_cons, List.length_nil, List.replicate, List.getElem?_cons_zero, List.getElem?_cons_succ, List.set_cons_zero, List.set_cons_succ, List.getD_cons_zero, List.getD_cons_succ, Nat.reduceAdd, Nat.reduceSub, Nat.zero_add, true_and, and_true, Bool.not_true, Bool.not_false, if_true, if_false, Bool.false_eq_true, reduceIte, decide_eq_true_eq, Bool.not_eq_true', decide_eq_false_iff_not, eqV_int, eqV_str, eqV_bl, decide_true, reduceCtorEq, not_true_eq_false, not_false_eq_true, Bool.not_eq_true, List.not_mem_nil, false_implies, implies_true, Int.reduceNeg, Int.reduceToNat, Int.reducePow, Int.reduceMul, Int.reduceAdd, draw_i, ix_t0, ix_t1, ix_t2, ix_t3, ix_m3, ix_m4, sn_ball_box, sn_cell_box, sn_cell_ball, sn_ball_cell, sn_box_ball, sn_box_cell, decide_false]
        intro k5 _ _
        refine ite_both ?_ ?_
        · intro _
          simp (disch := first | assumption | decide) only [wSeq, wNext, wAsg, wgName, wIfS, wB, wOp, wVar, wC, wCall, wCallK, wCons, wNil, wRet, wRetN, wDrop, wTup, wLst, wIf, wAnd, wOr, wNot, wAndV, wOrV, wNotV, wNeg, wChain, fI, fI0, addD, fLt, fLe, fGt, fGe, fIsB, wCB, fAbs, f2I, fInt, fIsq, wPar, wPar3, permD, startE, List.map_cons, List.map_nil, List.cons_append, List.nil_append, List.append_nil, List.length_cons, List.length_nil, List.replicate, List.getElem?_cons_zero, List.getElem?_cons_succ, List.set_cons_zero, List.set_cons_succ, List.getD_cons_zero, List.getD_cons_succ, Nat.reduceAdd, Nat.reduceSub, Nat.zero_add, true_and, and_true, Bool.not_true, Bool.not_false, if_true, if_false, Bool.false_eq_true, reduceIte, decide_eq_true_eq, Bool.not_eq_true', decide_eq_false_iff_not, eqV_int, eqV_str, eqV_bl, decide_true, reduceCtorEq, not_true_eq_false, not_false_eq_true, Bool.not_eq_true, List.not_mem_nil, false_implies, implies_true, Int.reduceNeg, Int.reduceToNat, Int.reducePow, Int.reduceMul, Int.reduceAdd, draw_i, ix_t0, ix_t1, ix_t2, ix_t3, ix_m3, ix_m4, sn_ball_box, sn_cell_box, sn_cell_ball, sn_ball_cell, sn_box_ball, sn_box_cell, decide_false, wMeth]
          refine ⟨ii hq _ (by decide), o, h, es, rfl, hq, ?_⟩
          simp (disch := first | assumption | decide) only [wSeq, wNext, wAsg, wgName, wIfS, wB, wOp, wVar, wC, wCall, wCallK, wCons, wNil, wRet, wRetN, wDrop, wTup, wLst, wIf, wAnd, wOr, wNot, wAndV, wOrV, wNotV, wNeg, wChain, fI, fI0, addD, fLt, fLe, fGt, fGe, fIsB, wCB, fAbs, f2I, fInt, fIsq, wPar, wPar3, permD, startE, List.map_cons, List.map_nil, List.cons_append, List.nil_append, List.append_nil, List.length_cons, List.length_nil, List.replicate, List.getElem?_cons_zero, List.getElem?_cons_succ, List.set_cons_zero, List.set_cons_succ, List.getD_cons_zero, List.getD_cons_succ, Nat.reduceAdd, Nat.reduceSub, Nat.zero_add, true_and, and_true, Bool.not_true, Bool.not_false, if_true, if_false, Bool.false_eq_true, reduceIte, decide_eq_true_eq, Bool.not_eq_true', decide_eq_false_iff_not, eqV_int, eqV_str, eqV_bl, decide_true, reduceCtorEq, not_true_eq_false, not_false_eq_true, Bool.not_eq_true, List.not_mem_nil, false_implies, implies_true, Int.reduceNeg, Int.reduceToNat, Int.reducePow, Int.reduceMul, Int.reduceAdd, draw_i, ix_t0, ix_t1, ix_t2, ix_t3, ix_m3, ix_m4, sn_ball_box, sn_cell_box, sn_cell_ball, sn_ball_cell, sn_box_ball, sn_box_cell, decide_false, fLen]
          refine ⟨_, seq_h hu, ?_⟩
          refine eqq_int ?_
          rw [List.length_map, ld, decide_eq_true rfl]
          exact q M h es due hq hu pd nuh (by omega) (.inl rfl) same
        · intro _
          subst hK
          refine seq_gen fun K hK => ?_
          refine ⟨fun m ρ' M' => ρ' = [some (.tok a), some (.tok o), some (.tok u), some (.int kind), some (.lst (srtD (es.map Ent.d))), none, none] ∧ (∀ b, b ≠ u → M' b = M b) ∧ ∃ d' : List Ent, d'.length = m ∧ M' u = some (.lst (d'.map Ent.d)), ⟨_, rfl, fun _ _ => rfl, due, rfl, hu⟩, ?_⟩
          rintro m ρ' M' ⟨rfl, ha, d', ld', hu'⟩
          simp (disch := first | assumption | decide) only [wSeq, wNext, wAsg, wgName, wIfS, wB, wOp, wVar, wC, wCall, wCallK, wCons, wNil, wRet, wRetN, wDrop, wTup, wLst, wIf, wAnd, wOr, wNot, wAndV, wOrV, wNotV, wNeg, wChain, fI, fI0, addD, fLt, fLe, fGt, fGe, fIsB, wCB, fAbs, f2I, fInt, fIsq, wPar, wPar3, permD, startE, List.map_cons, List.map_nil, List.cons_append, List.nil_append, List.append_nil, List.length_cons, List.length_nil, List.replicate, List.getElem?_cons_zero, List.getElem?_cons_succ, List.set_cons_zero, List.set_cons_succ, List.getD_cons_zero, List.getD_cons_succ, Nat.reduceAdd, Nat.reduceSub, Nat.zero_add, true_and, and_true, Bool.not_true, Bool.not_false, if_true, if_false, Bool.false_eq_true, reduceIte, decide_eq_true_eq, Bool.not_eq_true', decide_eq_false_iff_not, eqV_int, eqV_str, eqV_bl, decide_true, reduceCtorEq, not_true_eq_false, not_false_eq_true, Bool.not_eq_true, List.not_mem_nil, false_implies, implies_true, Int.reduceNeg, Int.reduceToNat, Int.reducePow, Int.reduceMul, Int.reduceAdd, draw_i, ix_t0, ix_t1, ix_t2, ix_t3, ix_m3, ix_m4, sn_ball_box, sn_cell_box, sn_cell_ball, sn_ball_cell, sn_box_ball, sn_box_cell, decide_false]
          refine ⟨by decide, ne_nilT hu' ents_fit ?_⟩
          rcases List.eq_nil_or_concat d' with rfl | ⟨d2, z, rfl⟩
          · simp (disch := first | assumption | decide) only [wSeq, wNext, wAsg, wgName, wIfS, wB, wOp, wVar, wC, wCall, wCallK, wCons, wNil, wRet, wRetN, wDrop, wTup, wLst, wIf, wAnd, wOr, wNot, wAndV, wOrV, wNotV, wNeg, wChain, fI, fI0, addD, fLt, fLe, fGt, fGe, fIsB, wCB, fAbs, f2I, fInt, fIsq, wPar, wPar3, permD, startE, List.map_cons, List.map_nil, List.cons_append, List.nil_append, List.append_nil, List.length_cons, List.length_nil, List.replicate, List.getElem?_cons_zero, List.getElem?_cons_succ, List.set_cons_zero, List.set_cons_succ, List.getD_cons_zero, List.getD_cons_succ, Nat.reduceAdd, Nat.reduceSub, Nat.zero_add, true_and, and_true, Bool.not_true, Bool.not_false, if_true, if_false, Bool.false_eq_true, reduceIte, decide_eq_true_eq, Bool.not_eq_true', decide_eq_false_iff_not, eqV_int, eqV_str, eqV_bl, decide_true, reduceCtorEq, not_true_eq_false, not_false_eq_true, Bool.not_eq_true, List.not_mem_nil, false_implies, implies_true, Int.reduceNeg, Int.reduceToNat, Int.reducePow, Int.reduceMul, Int.reduceAdd, draw_i, ix_t0, ix_t1, ix_t2, ix_t3, ix_m3, ix_m4, sn_ball_box, sn_cell_box, sn_cell_ball, sn_ball_cell, sn_box_ball, sn_box_cell, decide_false, List.isEmpty_nil]
            have hq' : qAt M' o h es := ⟨by rw [ha o (Ne.symm nuo)]; exact hq.1, by rw [ha h (Ne.symm nuh)]; exact hq.2.1, hq.2.2⟩
            subst hK
            simp (disch := first | assumption | decide) only [wSeq, wNext, wAsg, wgName, wIfS, wB, wOp, wVar, wC, wCall, wCallK, wCons, wNil, wRet, wRetN, wDrop, wTup, wLst, wIf, wAnd, wOr, wNot, wAndV, wOrV, wNotV, wNeg, wChain, fI, fI0, addD, fLt, fLe, fGt, fGe, fIsB, wCB, fAbs, f2I, fInt, fIsq, wPar, wPar3, permD, startE, List.map_cons, List.map_nil, List.cons_append, List.nil_append, List.append_nil, List.length_cons, List.length_nil, List.replicate, List.getElem?_cons_zero, List.getElem?_cons_succ, List.set_cons_zero, List.set_cons_succ, List.getD_cons_zero, List.getD_cons_succ, Nat.reduceAdd, Nat.reduceSub, Nat.zero_add, true_and, and_true, Bool.not_true, Bool.not_false, if_true, if_false, Bool.false_eq_true, reduceIte, decide_eq_true_eq, Bool.not_eq_true', decide_eq_false_iff_not, eqV_int, eqV_str, eqV_bl, decide_true, reduceCtorEq, not_true_eq_false, not_false_eq_true, Bool.not_eq_true, List.not_mem_nil, false_implies, implies_true, Int.reduceNeg, Int.reduceToNat, Int.reducePow, Int.reduceMul, Int.reduceAdd, draw_i, ix_t0, ix_t1, ix_t2, ix_t3, ix_m3, ix_m4, sn_ball_box, sn_cell_box, sn_cell_ball, sn_ball_cell, sn_box_ball, sn_box_cell, decide_false, wMeth]
            refine ⟨ii hq' _ (by decide), o, h, es, rfl, hq', fun h' M2 hn hq2 hfr => ?_⟩
            simp (disch := first | assumption | decide) only [wSeq, wNext, wAsg, wgName, wIfS, wB, wOp, wVar, wC, wCall, wCallK, wCons, wNil, wRet, wRetN, wDrop, wTup, wLst, wIf, wAnd, wOr, wNot, wAndV, wOrV, wNotV, wNeg, wChain, fI, fI0, addD, fLt, fLe, fGt, fGe, fIsB, wCB, fAbs, f2I, fInt, fIsq, wPar, wPar3, permD, startE, List.map_cons, List.map_nil, List.cons_append, List.nil_append, List.append_nil, List.length_cons, List.length_nil, List.replicate, List.getElem?_cons_zero, List.getElem?_cons_succ, List.set_cons_zero, List.set_cons_succ, List.getD_cons_zero, List.getD_cons_succ, Nat.reduceAdd, Nat.reduceSub, Nat.zero_add, true_and, and_true, Bool.not_true, Bool.not_false, if_true, if_false, Bool.false_eq_true, reduceIte, decide_eq_true_eq, Bool.not_eq_true', decide_eq_false_iff_not, eqV_int, eqV_str, eqV_bl, decide_true, reduceCtorEq, not_true_eq_false, not_false_eq_true, Bool.not_eq_true, List.not_mem_nil, false_implies, implies_true, Int.reduceNeg, Int.reduceToNat, Int.reducePow, Int.reduceMul, Int.reduceAdd, draw_i, ix_t0, ix_t1, ix_t2, ix_t3, ix_m3, ix_m4, sn_ball_box, sn_cell_box, sn_cell_ball, sn_ball_cell, sn_box_ball, sn_box_cell, decide_false, fTuple]
            refine ⟨_, rfl, ?_⟩
            obtain ⟨fs, ef, pf⟩ := ents_of (srt_pm (es.map Ent.d))
            rw [ef]
            have nuh' : u ≠ h' := fun z => by rw [← z, hu'] at hn; cases hn
            exact eq_ents (es := fs) rfl rfl (q M2 h' [] [] hq2 (hfr u _ nuo hu') (List.Perm.refl _) nuh' (Nat.zero_le _) (.inr (by rw [← ha h' (Ne.symm nuh')]; exact hn)) fun b c b1 b2 b3 hb => hfr b c b1 (by rw [ha b b3]; exact hb))
          · rw [List.concat_eq_append] at hu' ld' ⊢
            rw [List.map_append] at hu' ⊢
            rw [show ((d2.map Ent.d ++ [z].map Ent.d).isEmpty) = false from by simp]
            simp (disch := first | assumption | decide) only [wSeq, wNext, wAsg, wgName, wIfS, wB, wOp, wVar, wC, wCall, wCallK, wCons, wNil, wRet, wRetN, wDrop, wTup, wLst, wIf, wAnd, wOr, wNot, wAndV, wOrV, wNotV, wNeg, wChain, fI, fI0, addD, fLt, fLe, fGt, fGe, fIsB, wCB, fAbs, f2I, fInt, fIsq, wPar, wPar3, permD, startE, List.map_cons, List.map_nil, List.cons_append, List.nil_append, List.append_nil, List.length_cons, List.length_nil, List.replicate, List.getElem?_cons_zero, List.getElem?_cons_succ, List.set_cons_zero, List.set_cons_succ, List.getD_cons_zero, List.getD_cons_succ, Nat.reduceAdd, Nat.reduceSub, Nat.zero_add, true_and, and_true, Bool.not_true, Bool.not_false, if_true, if_false, Bool.false_eq_true, reduceIte, decide_eq_true_eq, Bool.not_eq_true', decide_eq_false_iff_not, eqV_int, eqV_str, eqV_bl, decide_true, reduceCtorEq, not_true_eq_false, not_false_eq_true, Bool.not_eq_true, List.not_mem_nil, false_implies, implies_true, Int.reduceNeg, Int.reduceToNat, Int.reducePow, Int.reduceMul, Int.reduceAdd, draw_i, ix_t0, ix_t1, ix_t2, ix_t3, ix_m3, ix_m4, sn_ball_box, sn_cell_box, sn_cell_ball, sn_ball_cell, sn_box_ball, sn_box_cell, decide_false, wPop0]
            refine ⟨d2.map Ent.d, z.d, hu', m - 1, ?_, fun b hb => ?_, d2, ?_, setM_same⟩
            · rw [List.length_append, List.length_singleton] at ld'
              omega
            · rw [setM_ne hb]
              exact ha b hb
            · rw [List.length_append, List.length_singleton] at ld'
              omega
end K31
namespace K31
open PySem L2 L3
/-! two queues at once -/
theorem qAt.up {M M' : Mp} {o h : Addr} {es : List Ent} (k : qAt M o h es) (u : Up M M') : qAt M' o h es := ⟨u _ _ k.1, u _ _ k.2.1, k.2.2⟩
structure Two (a a0 o1 o2 p7 p8 : Addr) (n : Nat) (M : Mp) (h1 h2 : Addr) (e1 e2 d1 d2 : List Ent) : Prop where
  ma : M a = some (.drw a0)
  q1 : qAt M o1 h1 e1
  q2 : qAt M o2 h2 e2
  u1 : M p7 = some (.lst (d1.map Ent.d))
  u2 : M p8 = some (.lst (d2.map Ent.d))
  s1 : d1.Perm e1
  s2 : d2.Perm e2
  x1 : p7 ≠ h1
  x2 : p7 ≠ h2
  x3 : p8 ≠ h1
  x4 : p8 ≠ h2
  x5 : h1 ≠ h2
  x6 : p7 ≠ p8
  x7 : o1 ≠ o2
  l1 : d1.length ≤ n
  l2 : d2.length ≤ n
section
variable {a a0 o1 o2 p7 p8 h1 h2 : Addr} {n : Nat} {M M' : Mp} {e1 e2 d1 d2 : List Ent}
theorem Two.swap (t : Two a a0 o1 o2 p7 p8 n M h1 h2 e1 e2 d1 d2) : Two a a0 o2 o1 p8 p7 n M h2 h1 e2 e1 d2 d1 :=
  ⟨t.ma, t.q2, t.q1, t.u2, t.u1, t.s2, t.s1, t.x4, t.x3, t.x2, t.x1, Ne.symm t.x5, Ne.symm t.x6, Ne.symm t.x7, t.l2, t.l1⟩
theorem Two.mono {m : Nat} (t : Two a a0 o1 o2 p7 p8 n M h1 h2 e1 e2 d1 d2) (h : n ≤ m) : Two a a0 o1 o2 p7 p8 m M h1 h2 e1 e2 d1 d2 :=
  ⟨t.ma, t.q1, t.q2, t.u1, t.u2, t.s1, t.s2, t.x1, t.x2, t.x3, t.x4, t.x5, t.x6, t.x7, Nat.le_trans t.l1 h, Nat.le_trans t.l2 h⟩
/-- what stands in the first queue's cells alone -/
theorem Two.frame (t : Two a a0 o1 o2 p7 p8 n M h1 h2 e1 e2 d1 d2) {h' : Addr} {e' d' : List Ent} {m : Nat} (hq : qAt M' o1 h' e') (hu : M' p7 = some (.lst (d'.map Ent.d))) (pd : d'.Perm e') (x : p7 ≠ h') (hl : d'.length ≤ m) (nm : n ≤ m) (hh : h' = h1 ∨ M h' = none)
    (fr : ∀ b c, b ≠ o1 → b ≠ h1 → b ≠ p7 → M b = some c → M' b = some c) : Two a a0 o1 o2 p7 p8 m M' h' h2 e' e2 d' d2 := by
  have c : ∀ {b : Addr} {y z : Cell}, M b = some y → ∀ {b' : Addr}, M b' = some z → y ≠ z → b ≠ b' := fun {b y z} hb b' hb' hy e => by
    rw [e, hb'] at hb
    exact hy (Option.some.inj hb).symm
  have nh : ∀ b y, M b = some y → b ≠ h1 → b ≠ h' := fun b y hb n1 e => by
    rcases hh with z | z
    · exact n1 (e.trans z)
    · rw [← e, hb] at z
      cases z
  have f2 : qAt M' o2 h2 e2 := ⟨fr _ _ (Ne.symm t.x7) (c t.q2.1 t.q1.2.1 nofun) (c t.q2.1 t.u1 nofun) t.q2.1, fr _ _ (c t.q2.2.1 t.q1.1 nofun) (Ne.symm t.x5) (Ne.symm t.x2) t.q2.2.1, t.q2.2.2⟩
  exact ⟨fr _ _ (c t.ma t.q1.1 nofun) (c t.ma t.q1.2.1 nofun) (c t.ma t.u1 nofun) t.ma, hq, f2, hu, fr _ _ (c t.u2 t.q1.1 nofun) t.x3 (Ne.symm t.x6) t.u2, pd, t.s2, x, t.x2, nh _ _ t.u2 t.x3, t.x4, Ne.symm (nh _ _ t.q2.2.1 (Ne.symm t.x5)), t.x6, t.x7, hl, Nat.le_trans t.l2 nm⟩
theorem Two.deed (t : Two a a0 o1 o2 p7 p8 n M h1 h2 e1 e2 d1 d2) (hn : n ≤ 400) {Q : KD} {R : XF} (q : ∀ M' h' e' d', Two a a0 o1 o2 p7 p8 (n + 1) M' h' h2 e' e2 d' d2 → Q (.bl true) M') : F__law_deed [.tok a, .tok o1, .tok p7] M Q R := by
  have l1 := t.l1
  have l2 := t.s1.length_eq
  exact ⟨a, a0, o1, h1, p7, e1, d1, rfl, t.ma, t.q1, t.u1, t.s1, t.x1, by omega, fun M' h' e' d' hq hu pd x hl hh fr => q M' h' e' d' (t.frame hq hu pd x (by omega) (Nat.le_succ n) hh fr)⟩
end
end K31
namespace K31
open PySem L2 L3
theorem ents_all : ∀ {ys : List D}, (∀ y ∈ ys, ∃ e : Ent, y = e.d) → ∃ es : List Ent, ys = es.map Ent.d
  | [], _ => ⟨[], rfl⟩
  | y :: ys, h => by
    obtain ⟨e, rfl⟩ := h y List.mem_cons_self
    obtain ⟨es, rfl⟩ := ents_all (ys := ys) fun z hz => h z (List.mem_cons_of_mem _ hz)
    exact ⟨e :: es, rfl⟩
theorem init_i {M : Mp} {o : Addr} {d : D} {es : List Ent} {P : Mp → Prop} {R : XF} (ho : M o = none) (hs : seqD (setM M o (.ins "Queue" [])) d = some (es.map Ent.d)) (hl : es.length ≤ 1000)
    (q : ∀ h es' M', M h = none → es'.Perm es → qAt M' o h es' → Up M M' → P M') : F_Queue___init__ [.tok o, d] (setM M o (.ins "Queue" [])) (fun d M2 => d = .non ∧ P M2) R :=
  ⟨o, d, es, rfl, setM_same, hs, hl, fun h es' M' hh pm hq fr => ⟨rfl, q h es' M' (by
    have n : h ≠ o := fun z => by rw [z, setM_same] at hh; cases hh
    rw [setM_ne n] at hh
    exact hh) pm hq fun b c hb => by
      have n : b ≠ o := fun z => by rw [z, ho] at hb; cases hb
      exact fr b c n (by rw [setM_ne n]; exact hb)⟩⟩
theorem ne_ents {es : List Ent} {l l' : List D} {M : Mp} {Q : KD} (h : l = es.map Ent.d) (h' : l' = es.map Ent.d) (q : Q (.bl false) M) : eqV true (.tup l) (.tup l') M Q := by
  subst h
  subst h'
  refine (Iff.rfl : eqV true (.tup _) (.tup _) M Q ↔ eqD2 true (.tup _) (.tup _) M Q).mpr ⟨⟨2, by decide, ents_fit, ents_fit⟩, ?_⟩
  have e : eqD (res M (.tup (es.map Ent.d))) (res M (.tup (es.map Ent.d))) = true := PySem.W.eqv_refl_alike (.tuple (pyL (es.map Ent.d))) (alikeAll_ents es)
  rw [e]
  exact q
theorem ne_entsL {es : List Ent} {l l' : D} {M : Mp} {Q : KD} (h : res M l = .lst (es.map Ent.d)) (h' : res M l' = .lst (es.map Ent.d)) (q : Q (.bl false) M) : eqD2 true l l' M Q := by
  refine ⟨⟨2, by decide, by rw [h]; exact ents_fit, by rw [h']; exact ents_fit⟩, ?_⟩
  have e : eqD (res M l) (res M l') = true := by
    rw [h, h']
    exact PySem.W.eqv_refl_alike (.list (pyL (es.map Ent.d))) (alikeAll_ents es)
  rw [e]
  exact q
theorem ne_lst {es : List Ent} {l l' : List D} {M : Mp} {Q : KD} (h : l = es.map Ent.d) (h' : l' = es.map Ent.d) (q : Q (.bl false) M) : eqV true (.lst l) (.lst l') M Q :=
  (Iff.rfl : eqV true (.lst l) (.lst l') M Q ↔ eqD2 true (.lst l) (.lst l') M Q).mpr (ne_entsL (es := es) (by rw [h]; rfl) (by rw [h']; rfl) q)
theorem ne_tok {es : List Ent} {a : Addr} {M : Mp} {Q : KD} (h : M a = some (.lst (es.map Ent.d))) (q : Q (.bl false) M) : eqV true (.tok a) (.lst (es.map Ent.d)) M Q :=
  (Iff.rfl : eqV true (.tok a) (.lst _) M Q ↔ eqD2 true (.tok a) (.lst _) M Q).mpr (ne_entsL (es := es) (by
    show (match M a with | some (.lst ds) => D.lst ds | some (.dic _ _) => _ | _ => _) = _
    rw [h]) rfl q)
theorem nee_ent {e : Ent} {M : Mp} {Q : KD} (q : Q (.bl false) M) : eqV true e.d e.d M Q := by
  refine (Iff.rfl : eqV true e.d e.d M Q ↔ eqD2 true e.d e.d M Q).mpr ⟨⟨1, by decide, ent_fit e, ent_fit e⟩, ?_⟩
  have k : eqD (res M e.d) (res M e.d) = true := PySem.W.eqv_refl_alike e.d.py rfl
  rw [k]
  exact q
theorem least_f {M : Mp} {o h : Addr} {x : Ent} {r : List Ent} {Q : KD} {R} (hq : qAt M o h (x :: r)) (q : Q x.d M) : F__law_least [.tok o, .bl false] M Q R := ⟨o, h, x :: r, false, rfl, hq, q⟩
theorem least_t {M : Mp} {o h : Addr} {x : Ent} {r : List Ent} {Q : KD} {R} (hq : qAt M o h (x :: r)) (q : ∀ es' : List Ent, es'.Perm r → isHp (es'.map Ent.d) → Q x.d (setM M h (.lst (es'.map Ent.d)))) : F__law_least [.tok o, .bl true] M Q R := ⟨o, h, x :: r, true, rfl, hq, q⟩
theorem least_n {M : Mp} {o h : Addr} {b : Bool} {Q : KD} {R} (hq : qAt M o h []) (q : Q .non M) : F__law_least [.tok o, .bl b] M Q R := ⟨o, h, [], b, rfl, hq, q⟩
theorem srt_nil {es : List Ent} (h : srtD (es.map Ent.d) = []) : es = [] := by
  have k := (srt_pm (es.map Ent.d)).length_eq
  rw [h, List.length_map] at k
  cases es with
  | nil => rfl
  | cons _ _ => cases k
theorem at1 {x y : D} : atI [x, y] 1 = some y := by
  unfold atI ixN
  simp
theorem wp_law : ∀ ds M Q R, F_law ds M Q R → W_law { nx := fun _ M' => Q .non M', rt := Q, xr := lx R } (startE 12 ds) M := by
  rintro ds M Q R ⟨ns, rfl, hl, q⟩
  unfold W_law
  refine seq_gen fun K hK => ?_
  simp (disch := first | assumption | decide) only [wSeq, wNext, wAsg, wgName, wIfS, wB, wOp, wVar, wC, wCall, wCallK, wCons, wNil, wRet, wRetN, wDrop, wTup, wLst, wIf, wAnd, wOr, wNot, wAndV, wOrV, wNotV, wNeg, wChain, fI, fI0, addD, fLt, fLe, fGt, fGe, fIsB, wCB, fAbs, f2I, fInt, fIsq, wPar, wPar3, permD, startE, List.map_cons, List.map_nil, List.cons_append, List.nil_append, List.append_nil, List.length_cons, List.length_nil, List.replicate, List.getElem?_cons_zero, List.getElem?_cons_succ, List.set_cons_zero, List.set_cons_succ, List.getD_cons_zero, List.getD_cons_succ, Nat.reduceAdd, Nat.reduceSub, Nat.zero_add, true_and, and_true, Bool.not_true, Bool.not_false, if_true, if_false, Bool.false_eq_true, reduceIte, decide_eq_true_eq, Bool.not_eq_true', decide_eq_false_iff_not, eqV_int, eqV_str, eqV_bl, decide_true, reduceCtorEq, not_true_eq_false, not_false_eq_true, Bool.not_eq_true, List.not_mem_nil, false_implies, implies_true, Int.reduceNeg, Int.reduceToNat, Int.reducePow, Int.reduceMul, Int.reduceAdd, draw_i, ix_t0, ix_t1, ix_t2, ix_t3, ix_m3, ix_m4, sn_ball_box, sn_cell_box, sn_cell_ball, sn_ball_cell, sn_box_ball, sn_box_cell, decide_false]
  refine ⟨ns, rfl, hl, fun M1 a a0 ha => ?_⟩
  subst hK
  refine seq_gen fun K hK => ?_
  simp (disch := first | assumption | decide) only [wSeq, wNext, wAsg, wgName, wIfS, wB, wOp, wVar, wC, wCall, wCallK, wCons, wNil, wRet, wRetN, wDrop, wTup, wLst, wIf, wAnd, wOr, wNot, wAndV, wOrV, wNotV, wNeg, wChain, fI, fI0, addD, fLt, fLe, fGt, fGe, fIsB, wCB, fAbs, f2I, fInt, fIsq, wPar, wPar3, permD, startE, List.map_cons, List.map_nil, List.cons_append, List.nil_append, List.append_nil, List.length_cons, List.length_nil, List.replicate, List.getElem?_cons_zero, List.getElem?_cons_succ, List.set_cons_zero, List.set_cons_succ, List.getD_cons_zero, List.getD_cons_succ, Nat.reduceAdd, Nat.reduceSub, Nat.zero_add, true_and, and_true, Bool.not_true, Bool.not_false, if_true, if_false, Bool.false_eq_true, reduceIte, decide_eq_true_eq, Bool.not_eq_true', decide_eq_false_iff_not, eqV_int, eqV_str, eqV_bl, decide_true, reduceCtorEq, not_true_eq_false, not_false_eq_true, Bool.not_eq_true, List.not_mem_nil, false_implies, implies_true, Int.reduceNeg, Int.reduceToNat, Int.reducePow, Int.reduceMul, Int.reduceAdd, draw_i, ix_t0, ix_t1, ix_t2, ix_t3, ix_m3, ix_m4, sn_ball_box, sn_cell_box, sn_cell_ball, sn_ball_cell, sn_box_ball, sn_box_cell, decide_false, wLc, wiRange1, wipeE]
  intro j j0 j1
  refine ⟨by omega, by omega, ?_⟩
  refine lc_any (fun _ y => ∃ e : Ent, y = e.d) True.intro _ [] (by rw [intsD_len]; simp only [List.length_nil]; omega) (fun d hd K4 hK4 => ?_) fun ys hy1 hy2 => ?_
  · simp (disch := first | assumption | decide) only [wSeq, wNext, wAsg, wgName, wIfS, wB, wOp, wVar, wC, wCall, wCallK, wCons, wNil, wRet, wRetN, wDrop, wTup, wLst, wIf, wAnd, wOr, wNot, wAndV, wOrV, wNotV, wNeg, wChain, fI, fI0, addD, fLt, fLe, fGt, fGe, fIsB, wCB, fAbs, f2I, fInt, fIsq, wPar, wPar3, permD, startE, List.map_cons, List.map_nil, List.cons_append, List.nil_append, List.append_nil, List.length_cons, List.length_nil, List.replicate, List.getElem?_cons_zero, List.getElem?_cons_succ, List.set_cons_zero, List.set_cons_succ, List.getD_cons_zero, List.getD_cons_succ, Nat.reduceAdd, Nat.reduceSub, Nat.zero_add, true_and, and_true, Bool.not_true, Bool.not_false, if_true, if_false, Bool.false_eq_true, reduceIte, decide_eq_true_eq, Bool.not_eq_true', decide_eq_false_iff_not, eqV_int, eqV_str, eqV_bl, decide_true, reduceCtorEq, not_true_eq_false, not_false_eq_true, Bool.not_eq_true, List.not_mem_nil, false_implies, implies_true, Int.reduceNeg, Int.reduceToNat, Int.reducePow, Int.reduceMul, Int.reduceAdd, draw_i, ix_t0, ix_t1, ix_t2, ix_t3, ix_m3, ix_m4, sn_ball_box, sn_cell_box, sn_cell_ball, sn_ball_cell, sn_box_ball, sn_box_cell, decide_false]
    exact ⟨a, a0, rfl, ha, fun e => hK4 _ ⟨e, rfl⟩⟩
  rw [List.nil_append]
  rw [intsD_len] at hy1
  obtain ⟨es, rfl⟩ := ents_all (ys := ys) fun y hy => by
    obtain ⟨i, hi⟩ := List.mem_iff_getElem?.mp hy
    obtain ⟨_, _, h⟩ := hy2 i y hi
    exact h
  rw [List.length_map] at hy1
  have le : es.length ≤ 10 := by omega
  clear hy1 hy2
  subst hK
  refine seq_gen fun K hK => ?_
  simp (disch := first | assumption | decide) only [wSeq, wNext, wAsg, wgName, wIfS, wB, wOp, wVar, wC, wCall, wCallK, wCons, wNil, wRet, wRetN, wDrop, wTup, wLst, wIf, wAnd, wOr, wNot, wAndV, wOrV, wNotV, wNeg, wChain, fI, fI0, addD, fLt, fLe, fGt, fGe, fIsB, wCB, fAbs, f2I, fInt, fIsq, wPar, wPar3, permD, startE, List.map_cons, List.map_nil, List.cons_append, List.nil_append, List.append_nil, List.length_cons, List.length_nil, List.replicate, List.getElem?_cons_zero, List.getElem?_cons_succ, List.set_cons_zero, List.set_cons_succ, List.getD_cons_zero, List.getD_cons_succ, Nat.reduceAdd, Nat.reduceSub, Nat.zero_add, true_and, and_true, Bool.not_true, Bool.not_false, if_true, if_false, Bool.false_eq_true, reduceIte, decide_eq_true_eq, Bool.not_eq_true', decide_eq_false_iff_not, eqV_int, eqV_str, eqV_bl, decide_true, reduceCtorEq, not_true_eq_false, not_false_eq_true, Bool.not_eq_true, List.not_mem_nil, false_implies, implies_true, Int.reduceNeg, Int.reduceToNat, Int.reducePow, Int.reduceMul, Int.reduceAdd, draw_i, ix_t0, ix_t1, ix_t2, ix_t3, ix_m3, ix_m4, sn_ball_box, sn_cell_box, sn_cell_ball, sn_ball_cell, sn_box_ball, sn_box_cell, decide_false, wLc, wLcM, wiSeq, wipeE, wPar3]
  have l10 : ([] : List D).length + (es.map Ent.d).length ≤ 1000000 := by
    rw [List.length_map, List.length_nil]
    omega
  refine lc_pure id True.intro _ [] l10 (fun d _ K4 h => by simp (disch := first | assumption | decide) only [wSeq, wNext, wAsg, wgName, wIfS, wB, wOp, wVar, wC, wCall, wCallK, wCons, wNil, wRet, wRetN, wDrop, wTup, wLst, wIf, wAnd, wOr, wNot, wAndV, wOrV, wNotV, wNeg, wChain, fI, fI0, addD, fLt, fLe, fGt, fGe, fIsB, wCB, fAbs, f2I, fInt, fIsq, wPar, wPar3, permD, startE, List.map_cons, List.map_nil, List.cons_append, List.nil_append, List.append_nil, List.length_cons, List.length_nil, List.replicate, List.getElem?_cons_zero, List.getElem?_cons_succ, List.set_cons_zero, List.set_cons_succ, List.getD_cons_zero, List.getD_cons_succ, Nat.reduceAdd, Nat.reduceSub, Nat.zero_add, true_and, and_true, Bool.not_true, Bool.not_false, if_true, if_false, Bool.false_eq_true, reduceIte, decide_eq_true_eq, Bool.not_eq_true', decide_eq_false_iff_not, eqV_int, eqV_str, eqV_bl, decide_true, reduceCtorEq, not_true_eq_false, not_false_eq_true, Bool.not_eq_true, List.not_mem_nil, false_implies, implies_true, Int.reduceNeg, Int.reduceToNat, Int.reducePow, Int.reduceMul, Int.reduceAdd, draw_i, ix_t0, ix_t1, ix_t2, ix_t3, ix_m3, ix_m4, sn_ball_box, sn_cell_box, sn_cell_ball, sn_ball_cell, sn_box_ball, sn_box_cell, decide_false]; exact h) ?_
  rw [List.nil_append, List.map_id]
  refine fun p6 h6 => ?_
  refine lc_pure id True.intro _ [] l10 (fun d _ K4 h => by simp (disch := first | assumption | decide) only [wSeq, wNext, wAsg, wgName, wIfS, wB, wOp, wVar, wC, wCall, wCallK, wCons, wNil, wRet, wRetN, wDrop, wTup, wLst, wIf, wAnd, wOr, wNot, wAndV, wOrV, wNotV, wNeg, wChain, fI, fI0, addD, fLt, fLe, fGt, fGe, fIsB, wCB, fAbs, f2I, fInt, fIsq, wPar, wPar3, permD, startE, List.map_cons, List.map_nil, List.cons_append, List.nil_append, List.append_nil, List.length_cons, List.length_nil, List.replicate, List.getElem?_cons_zero, List.getElem?_cons_succ, List.set_cons_zero, List.set_cons_succ, List.getD_cons_zero, List.getD_cons_succ, Nat.reduceAdd, Nat.reduceSub, Nat.zero_add, true_and, and_true, Bool.not_true, Bool.not_false, if_true, if_false, Bool.false_eq_true, reduceIte, decide_eq_true_eq, Bool.not_eq_true', decide_eq_false_iff_not, eqV_int, eqV_str, eqV_bl, decide_true, reduceCtorEq, not_true_eq_false, not_false_eq_true, Bool.not_eq_true, List.not_mem_nil, false_implies, implies_true, Int.reduceNeg, Int.reduceToNat, Int.reducePow, Int.reduceMul, Int.reduceAdd, draw_i, ix_t0, ix_t1, ix_t2, ix_t3, ix_m3, ix_m4, sn_ball_box, sn_cell_box, sn_cell_ball, sn_ball_cell, sn_box_ball, sn_box_cell, decide_false]; exact h) ?_
  rw [List.nil_append, List.map_id]
  refine fun p7 h7 => ?_
  simp (disch := first | assumption | decide) only [wSeq, wNext, wAsg, wgName, wIfS, wB, wOp, wVar, wC, wCall, wCallK, wCons, wNil, wRet, wRetN, wDrop, wTup, wLst, wIf, wAnd, wOr, wNot, wAndV, wOrV, wNotV, wNeg, wChain, fI, fI0, addD, fLt, fLe, fGt, fGe, fIsB, wCB, fAbs, f2I, fInt, fIsq, wPar, wPar3, permD, startE, List.map_cons, List.map_nil, List.cons_append, List.nil_append, List.append_nil, List.length_cons, List.length_nil, List.replicate, List.getElem?_cons_zero, List.getElem?_cons_succ, List.set_cons_zero, List.set_cons_succ, List.getD_cons_zero, List.getD_cons_succ, Nat.reduceAdd, Nat.reduceSub, Nat.zero_add, true_and, and_true, Bool.not_true, Bool.not_false, if_true, if_false, Bool.false_eq_true, reduceIte, decide_eq_true_eq, Bool.not_eq_true', decide_eq_false_iff_not, eqV_int, eqV_str, eqV_bl, decide_true, reduceCtorEq, not_true_eq_false, not_false_eq_true, Bool.not_eq_true, List.not_mem_nil, false_implies, implies_true, Int.reduceNeg, Int.reduceToNat, Int.reducePow, Int.reduceMul, Int.reduceAdd, draw_i, ix_t0, ix_t1, ix_t2, ix_t3, ix_m3, ix_m4, sn_ball_box, sn_cell_box, sn_cell_ball, sn_ball_cell, sn_box_ball, sn_box_cell, decide_false, wLstM]
  refine ⟨by decide, fun p8 h8 => ?_⟩
  obtain ⟨M2, e2⟩ : ∃ M2, M2 = setM (setM (setM M1 p6 (.lst (es.map Ent.d))) p7 (.lst (es.map Ent.d))) p8 (.lst []) := ⟨_, rfl⟩
  rw [← e2]
  have n76 : p7 ≠ p6 := fun z => by rw [z, setM_same] at h7; cases h7
  have n87 : p8 ≠ p7 := fun z => by rw [z, setM_same] at h8; cases h8
  have n86 : p8 ≠ p6 := fun z => by rw [z, setM_ne (Ne.symm n76), setM_same] at h8; cases h8
  have m6 : M2 p6 = some (.lst (es.map Ent.d)) := by rw [e2, setM_ne (Ne.symm n86), setM_ne (Ne.symm n76), setM_same]
  have m7 : M2 p7 = some (.lst (es.map Ent.d)) := by rw [e2, setM_ne (Ne.symm n87), setM_same]
  have m8 : M2 p8 = some (.lst (([] : List Ent).map Ent.d)) := by rw [e2, setM_same]; rfl
  have na : ∀ p, M1 p = none → a ≠ p := fun p hp z => by rw [← z, ha] at hp; cases hp
  have k6 := na _ h6
  have k7 : a ≠ p7 := fun z => by rw [← z, setM_ne k6, ha] at h7; cases h7
  have k8 : a ≠ p8 := fun z => by rw [← z, setM_ne k7, setM_ne k6, ha] at h8; cases h8
  have ma : M2 a = some (.drw a0) := by rw [e2, setM_ne k8, setM_ne k7, setM_ne k6]; exact ha
  clear e2 h6 h7 h8 l10 na
  subst hK
  refine seq_gen fun K hK => ?_
  simp (disch := first | assumption | decide) only [wSeq, wNext, wAsg, wgName, wIfS, wB, wOp, wVar, wC, wCall, wCallK, wCons, wNil, wRet, wRetN, wDrop, wTup, wLst, wIf, wAnd, wOr, wNot, wAndV, wOrV, wNotV, wNeg, wChain, fI, fI0, addD, fLt, fLe, fGt, fGe, fIsB, wCB, fAbs, f2I, fInt, fIsq, wPar, wPar3, permD, startE, List.map_cons, List.map_nil, List.cons_append, List.nil_append, List.append_nil, List.length_cons, List.length_nil, List.replicate, List.getElem?_cons_zero, List.getElem?_cons_succ, List.set_cons_zero, List.set_cons_succ, List.getD_cons_zero, List.getD_cons_succ, Nat.reduceAdd, Nat.reduceSub, Nat.zero_add, true_and, and_true, Bool.not_true, Bool.not_false, if_true, if_false, Bool.false_eq_true, reduceIte, decide_eq_true_eq, Bool.not_eq_true', decide_eq_false_iff_not, eqV_int, eqV_str, eqV_bl, decide_true, reduceCtorEq, not_true_eq_false, not_false_eq_true, Bool.not_eq_true, List.not_mem_nil, false_implies, implies_true, Int.reduceNeg, Int.reduceToNat, Int.reducePow, Int.reduceMul, Int.reduceAdd, draw_i, ix_t0, ix_t1, ix_t2, ix_t3, ix_m3, ix_m4, sn_ball_box, sn_cell_box, sn_cell_ball, sn_ball_cell, sn_box_ball, sn_box_cell, decide_false, wMake, wMakeK, mkD]
  intro o1 ho1
  have n61 : p6 ≠ o1 := fun z => by rw [← z, m6] at ho1; cases ho1
  refine init_i ho1 (seq_h (by rw [setM_ne n61]; exact m6)) (by omega) fun h1 es1 M3 hh1 pm1 hq1 u3 => ?_
  refine ⟨by decide, fun o2 ho2 => ?_⟩
  refine init_i (es := []) ho2 rfl (Nat.zero_le _) fun h2 es2 M4 hh2 pm2 hq2 u4 => ?_
  obtain rfl := List.perm_nil.mp pm2
  have d12 : h1 ≠ h2 := fun z => by
    have k := hq1.2.1
    rw [z, hh2] at k
    cases k
  have o12 : o1 ≠ o2 := fun z => by
    have k := hq1.1
    rw [z, ho2] at k
    cases k
  have hq1 := hq1.up u4
  have u24 := u3.trans u4
  have d17 : p7 ≠ h1 := fun z => by rw [← z, m7] at hh1; cases hh1
  have d27 : p7 ≠ h2 := fun z => by rw [← z, u3 _ _ m7] at hh2; cases hh2
  have d18 : p8 ≠ h1 := fun z => by rw [← z, m8] at hh1; cases hh1
  have d28 : p8 ≠ h2 := fun z => by rw [← z, u3 _ _ m8] at hh2; cases hh2
  have d61 : p6 ≠ h1 := fun z => by rw [← z, m6] at hh1; cases hh1
  have d62 : p6 ≠ h2 := fun z => by rw [← z, u3 _ _ m6] at hh2; cases hh2
  have m6 := u24 _ _ m6
  have m7 := u24 _ _ m7
  have m8 := u24 _ _ m8
  have ma := u24 _ _ ma
  subst hK
  refine seq_gen fun K hK => ?_
  simp (disch := first | assumption | decide) only [wSeq, wNext, wAsg, wgName, wIfS, wB, wOp, wVar, wC, wCall, wCallK, wCons, wNil, wRet, wRetN, wDrop, wTup, wLst, wIf, wAnd, wOr, wNot, wAndV, wOrV, wNotV, wNeg, wChain, fI, fI0, addD, fLt, fLe, fGt, fGe, fIsB, wCB, fAbs, f2I, fInt, fIsq, wPar, wPar3, permD, startE, List.map_cons, List.map_nil, List.cons_append, List.nil_append, List.append_nil, List.length_cons, List.length_nil, List.replicate, List.getElem?_cons_zero, List.getElem?_cons_succ, List.set_cons_zero, List.set_cons_succ, List.getD_cons_zero, List.getD_cons_succ, Nat.reduceAdd, Nat.reduceSub, Nat.zero_add, true_and, and_true, Bool.not_true, Bool.not_false, if_true, if_false, Bool.false_eq_true, reduceIte, decide_eq_true_eq, Bool.not_eq_true', decide_eq_false_iff_not, eqV_int, eqV_str, eqV_bl, decide_true, reduceCtorEq, not_true_eq_false, not_false_eq_true, Bool.not_eq_true, List.not_mem_nil, false_implies, implies_true, Int.reduceNeg, Int.reduceToNat, Int.reducePow, Int.reduceMul, Int.reduceAdd, draw_i, ix_t0, ix_t1, ix_t2, ix_t3, ix_m3, ix_m4, sn_ball_box, sn_cell_box, sn_cell_ball, sn_ball_cell, sn_box_ball, sn_box_cell, decide_false, wMake, wMakeK, mkD, wMeth]
  obtain ⟨fs, ef, pf⟩ := ents_of (srt_pm (es.map Ent.d))
  refine ⟨_, rfl, fun o3 ho3 => ?_⟩
  refine init_i ho3 rfl (by omega) fun h3 es3 M5 hh3 pm3 hq3 u5 => ?_
  refine ⟨ii hq3 _ (by decide), o3, h3, es3, rfl, hq3, ?_⟩
  refine srt_ok ⟨0, .inr rfl⟩ rfl ?_
  refine ⟨_, rfl, ?_⟩
  refine ne_ents (es := fs) (by rw [srt_eq pm3]; exact ef) ef ?_
  simp (disch := first | assumption | decide) only [wSeq, wNext, wAsg, wgName, wIfS, wB, wOp, wVar, wC, wCall, wCallK, wCons, wNil, wRet, wRetN, wDrop, wTup, wLst, wIf, wAnd, wOr, wNot, wAndV, wOrV, wNotV, wNeg, wChain, fI, fI0, addD, fLt, fLe, fGt, fGe, fIsB, wCB, fAbs, f2I, fInt, fIsq, wPar, wPar3, permD, startE, List.map_cons, List.map_nil, List.cons_append, List.nil_append, List.append_nil, List.length_cons, List.length_nil, List.replicate, List.getElem?_cons_zero, List.getElem?_cons_succ, List.set_cons_zero, List.set_cons_succ, List.getD_cons_zero, List.getD_cons_succ, Nat.reduceAdd, Nat.reduceSub, Nat.zero_add, true_and, and_true, Bool.not_true, Bool.not_false, if_true, if_false, Bool.false_eq_true, reduceIte, decide_eq_true_eq, Bool.not_eq_true', decide_eq_false_iff_not, eqV_int, eqV_str, eqV_bl, decide_true, reduceCtorEq, not_true_eq_false, not_false_eq_true, Bool.not_eq_true, List.not_mem_nil, false_implies, implies_true, Int.reduceNeg, Int.reduceToNat, Int.reducePow, Int.reduceMul, Int.reduceAdd, draw_i, ix_t0, ix_t1, ix_t2, ix_t3, ix_m3, ix_m4, sn_ball_box, sn_cell_box, sn_cell_ball, sn_ball_cell, sn_box_ball, sn_box_cell, decide_false]
  refine ⟨_, rfl, fun o4 ho4 => ?_⟩
  refine init_i ho4 rfl (by omega) fun h4 es4 M6 hh4 pm4 hq4 u6 => ?_
  refine ⟨ii hq4 _ (by decide), o4, h4, es4, rfl, hq4, ?_⟩
  refine ⟨_, rfl, ?_⟩
  simp (disch := first | assumption | decide) only [wSeq, wNext, wAsg, wgName, wIfS, wB, wOp, wVar, wC, wCall, wCallK, wCons, wNil, wRet, wRetN, wDrop, wTup, wLst, wIf, wAnd, wOr, wNot, wAndV, wOrV, wNotV, wNeg, wChain, fI, fI0, addD, fLt, fLe, fGt, fGe, fIsB, wCB, fAbs, f2I, fInt, fIsq, wPar, wPar3, permD, startE, List.map_cons, List.map_nil, List.cons_append, List.nil_append, List.append_nil, List.length_cons, List.length_nil, List.replicate, List.getElem?_cons_zero, List.getElem?_cons_succ, List.set_cons_zero, List.set_cons_succ, List.getD_cons_zero, List.getD_cons_succ, Nat.reduceAdd, Nat.reduceSub, Nat.zero_add, true_and, and_true, Bool.not_true, Bool.not_false, if_true, if_false, Bool.false_eq_true, reduceIte, decide_eq_true_eq, Bool.not_eq_true', decide_eq_false_iff_not, eqV_int, eqV_str, eqV_bl, decide_true, reduceCtorEq, not_true_eq_false, not_false_eq_true, Bool.not_eq_true, List.not_mem_nil, false_implies, implies_true, Int.reduceNeg, Int.reduceToNat, Int.reducePow, Int.reduceMul, Int.reduceAdd, draw_i, ix_t0, ix_t1, ix_t2, ix_t3, ix_m3, ix_m4, sn_ball_box, sn_cell_box, sn_cell_ball, sn_ball_cell, sn_box_ball, sn_box_cell, decide_false]
  rw [if_neg (by rw [pm4.length_eq, List.length_map]; exact fun z => z rfl)]
  have u46 := u5.trans u6
  have m6 := u46 _ _ m6
  have m7 := u46 _ _ m7
  have m8 := u46 _ _ m8
  have ma := u46 _ _ ma
  have hq1 := hq1.up u46
  have hq2 := hq2.up u46
  subst hK
  refine seq_gen fun K hK => ?_
  simp (disch := first | assumption | decide) only [wSeq, wNext, wAsg, wgName, wIfS, wB, wOp, wVar, wC, wCall, wCallK, wCons, wNil, wRet, wRetN, wDrop, wTup, wLst, wIf, wAnd, wOr, wNot, wAndV, wOrV, wNotV, wNeg, wChain, fI, fI0, addD, fLt, fLe, fGt, fGe, fIsB, wCB, fAbs, f2I, fInt, fIsq, wPar, wPar3, permD, startE, List.map_cons, List.map_nil, List.cons_append, List.nil_append, List.append_nil, List.length_cons, List.length_nil, List.replicate, List.getElem?_cons_zero, List.getElem?_cons_succ, List.set_cons_zero, List.set_cons_succ, List.getD_cons_zero, List.getD_cons_succ, Nat.reduceAdd, Nat.reduceSub, Nat.zero_add, true_and, and_true, Bool.not_true, Bool.not_false, if_true, if_false, Bool.false_eq_true, reduceIte, decide_eq_true_eq, Bool.not_eq_true', decide_eq_false_iff_not, eqV_int, eqV_str, eqV_bl, decide_true, reduceCtorEq, not_true_eq_false, not_false_eq_true, Bool.not_eq_true, List.not_mem_nil, false_implies, implies_true, Int.reduceNeg, Int.reduceToNat, Int.reducePow, Int.reduceMul, Int.reduceAdd, draw_i, ix_t0, ix_t1, ix_t2, ix_t3, ix_m3, ix_m4, sn_ball_box, sn_cell_box, sn_cell_ball, sn_ball_cell, sn_box_ball, sn_box_cell, decide_false]
  refine srt_ok ⟨p6, .inl rfl⟩ (seq_h m6) ?_
  refine srt_ok ⟨0, .inr rfl⟩ rfl ?_
  refine ne_lst (es := fs) ef ef ?_
  simp (disch := first | assumption | decide) only [wSeq, wNext, wAsg, wgName, wIfS, wB, wOp, wVar, wC, wCall, wCallK, wCons, wNil, wRet, wRetN, wDrop, wTup, wLst, wIf, wAnd, wOr, wNot, wAndV, wOrV, wNotV, wNeg, wChain, fI, fI0, addD, fLt, fLe, fGt, fGe, fIsB, wCB, fAbs, f2I, fInt, fIsq, wPar, wPar3, permD, startE, List.map_cons, List.map_nil, List.cons_append, List.nil_append, List.append_nil, List.length_cons, List.length_nil, List.replicate, List.getElem?_cons_zero, List.getElem?_cons_succ, List.set_cons_zero, List.set_cons_succ, List.getD_cons_zero, List.getD_cons_succ, Nat.reduceAdd, Nat.reduceSub, Nat.zero_add, true_and, and_true, Bool.not_true, Bool.not_false, if_true, if_false, Bool.false_eq_true, reduceIte, decide_eq_true_eq, Bool.not_eq_true', decide_eq_false_iff_not, eqV_int, eqV_str, eqV_bl, decide_true, reduceCtorEq, not_true_eq_false, not_false_eq_true, Bool.not_eq_true, List.not_mem_nil, false_implies, implies_true, Int.reduceNeg, Int.reduceToNat, Int.reducePow, Int.reduceMul, Int.reduceAdd, draw_i, ix_t0, ix_t1, ix_t2, ix_t3, ix_m3, ix_m4, sn_ball_box, sn_cell_box, sn_cell_ball, sn_ball_cell, sn_box_ball, sn_box_cell, decide_false]
  refine ne_tok m6 ?_
  simp (disch := first | assumption | decide) only [wSeq, wNext, wAsg, wgName, wIfS, wB, wOp, wVar, wC, wCall, wCallK, wCons, wNil, wRet, wRetN, wDrop, wTup, wLst, wIf, wAnd, wOr, wNot, wAndV, wOrV, wNotV, wNeg, wChain, fI, fI0, addD, fLt, fLe, fGt, fGe, fIsB, wCB, fAbs, f2I, fInt, fIsq, wPar, wPar3, permD, startE, List.map_cons, List.map_nil, List.cons_append, List.nil_append, List.append_nil, List.length_cons, List.length_nil, List.replicate, List.getElem?_cons_zero, List.getElem?_cons_succ, List.set_cons_zero, List.set_cons_succ, List.getD_cons_zero, List.getD_cons_succ, Nat.reduceAdd, Nat.reduceSub, Nat.zero_add, true_and, and_true, Bool.not_true, Bool.not_false, if_true, if_false, Bool.false_eq_true, reduceIte, decide_eq_true_eq, Bool.not_eq_true', decide_eq_false_iff_not, eqV_int, eqV_str, eqV_bl, decide_true, reduceCtorEq, not_true_eq_false, not_false_eq_true, Bool.not_eq_true, List.not_mem_nil, false_implies, implies_true, Int.reduceNeg, Int.reduceToNat, Int.reducePow, Int.reduceMul, Int.reduceAdd, draw_i, ix_t0, ix_t1, ix_t2, ix_t3, ix_m3, ix_m4, sn_ball_box, sn_cell_box, sn_cell_ball, sn_ball_cell, sn_box_ball, sn_box_cell, decide_false]
  subst hK
  refine seq_gen fun K hK => ?_
  simp (disch := first | assumption | decide) only [wSeq, wNext, wAsg, wgName, wIfS, wB, wOp, wVar, wC, wCall, wCallK, wCons, wNil, wRet, wRetN, wDrop, wTup, wLst, wIf, wAnd, wOr, wNot, wAndV, wOrV, wNotV, wNeg, wChain, fI, fI0, addD, fLt, fLe, fGt, fGe, fIsB, wCB, fAbs, f2I, fInt, fIsq, wPar, wPar3, permD, startE, List.map_cons, List.map_nil, List.cons_append, List.nil_append, List.append_nil, List.length_cons, List.length_nil, List.replicate, List.getElem?_cons_zero, List.getElem?_cons_succ, List.set_cons_zero, List.set_cons_succ, List.getD_cons_zero, List.getD_cons_succ, Nat.reduceAdd, Nat.reduceSub, Nat.zero_add, true_and, and_true, Bool.not_true, Bool.not_false, if_true, if_false, Bool.false_eq_true, reduceIte, decide_eq_true_eq, Bool.not_eq_true', decide_eq_false_iff_not, eqV_int, eqV_str, eqV_bl, decide_true, reduceCtorEq, not_true_eq_false, not_false_eq_true, Bool.not_eq_true, List.not_mem_nil, false_implies, implies_true, Int.reduceNeg, Int.reduceToNat, Int.reducePow, Int.reduceMul, Int.reduceAdd, draw_i, ix_t0, ix_t1, ix_t2, ix_t3, ix_m3, ix_m4, sn_ball_box, sn_cell_box, sn_cell_ball, sn_ball_cell, sn_box_ball, sn_box_cell, decide_false, wApp]
  have cp : CPow 10 10 := ⟨by decide, by decide, by decide⟩
  simp only [eq_true cp, true_and]
  refine ⟨⟨_, m6⟩, by decide, _, m6, by rw [List.length_map]; exact Nat.lt_of_le_of_lt le (by decide), ?_⟩
  have n62 : p6 ≠ o2 := fun z => by
    have k := hq2.1
    rw [← z, m6] at k
    cases k
  have t0 : ∀ c : Cell, Two a a0 o1 o2 p7 p8 10 (setM M6 p6 c) h1 h2 es1 [] es [] := fun c =>
    ⟨by rw [setM_ne k6]; exact ma, hq1.set n61 d61, hq2.set n62 d62, by rw [setM_ne n76]; exact m7, by rw [setM_ne n86]; exact m8, pm1.symm, List.Perm.refl _, d17, d27, d18, d28, d12, Ne.symm n87, o12, le, Nat.zero_le _⟩
  obtain ⟨M7, e7⟩ : ∃ M7, M7 = setM M6 p6 (.lst (es.map Ent.d ++ [.tup [.int (-10000000000), .str "lot", .int 0]])) := ⟨_, rfl⟩
  have t0 := t0 (.lst (es.map Ent.d ++ [.tup [.int (-10000000000), .str "lot", .int 0]]))
  rw [← e7] at t0 ⊢
  subst hK
  refine seq_gen fun K hK => ?_
  refine for_gen fun B hB => ?_
  have ma7 := t0.ma
  simp (disch := first | assumption | decide) only [wSeq, wNext, wAsg, wgName, wIfS, wB, wOp, wVar, wC, wCall, wCallK, wCons, wNil, wRet, wRetN, wDrop, wTup, wLst, wIf, wAnd, wOr, wNot, wAndV, wOrV, wNotV, wNeg, wChain, fI, fI0, addD, fLt, fLe, fGt, fGe, fIsB, wCB, fAbs, f2I, fInt, fIsq, wPar, wPar3, permD, startE, List.map_cons, List.map_nil, List.cons_append, List.nil_append, List.append_nil, List.length_cons, List.length_nil, List.replicate, List.getElem?_cons_zero, List.getElem?_cons_succ, List.set_cons_zero, List.set_cons_succ, List.getD_cons_zero, List.getD_cons_succ, Nat.reduceAdd, Nat.reduceSub, Nat.zero_add, true_and, and_true, Bool.not_true, Bool.not_false, if_true, if_false, Bool.false_eq_true, reduceIte, decide_eq_true_eq, Bool.not_eq_true', decide_eq_false_iff_not, eqV_int, eqV_str, eqV_bl, decide_true, reduceCtorEq, not_true_eq_false, not_false_eq_true, Bool.not_eq_true, List.not_mem_nil, false_implies, implies_true, Int.reduceNeg, Int.reduceToNat, Int.reducePow, Int.reduceMul, Int.reduceAdd, draw_i, ix_t0, ix_t1, ix_t2, ix_t3, ix_m3, ix_m4, sn_ball_box, sn_cell_box, sn_cell_ball, sn_ball_cell, sn_box_ball, sn_box_cell, decide_false, wFor, wiRange1]
  intro n n0 n1
  refine ⟨by omega, by omega, ?_⟩
  refine loop_ix (fun i ρ' M' => ∃ h1 h2 e1 e2 d1 d2 v3, Two a a0 o1 o2 p7 p8 (10 + 2 * i) M' h1 h2 e1 e2 d1 d2 ∧ ρ' = [some (.lst (ns.map .int)), some (.tok a), some (.lst (es.map Ent.d)), v3, none, none, some (.tok p6), some (.tok p7), some (.tok p8), some (.tok o1), some (.tok o2), none]) ?_ ?_ ⟨h1, h2, es1, [], es, [], _, t0, rfl⟩
  · rintro i d ρ' M' hi ⟨g1, g2, e1, e2, d1, d2, v3, t, rfl⟩
    have hil : i < 50 := by
      have := (List.getElem?_eq_some_iff.mp hi).1
      rw [intsD_len] at this
      omega
    obtain ⟨li, rfl⟩ := intsD_get hi
    refine ⟨True.intro, fun K2 hK2 => ?_⟩
    subst hB
    refine seq_gen fun K3 hK3 => ?_
    simp (disch := first | assumption | decide) only [wSeq, wNext, wAsg, wgName, wIfS, wB, wOp, wVar, wC, wCall, wCallK, wCons, wNil, wRet, wRetN, wDrop, wTup, wLst, wIf, wAnd, wOr, wNot, wAndV, wOrV, wNotV, wNeg, wChain, fI, fI0, addD, fLt, fLe, fGt, fGe, fIsB, wCB, fAbs, f2I, fInt, fIsq, wPar, wPar3, permD, startE, List.map_cons, List.map_nil, List.cons_append, List.nil_append, List.append_nil, List.length_cons, List.length_nil, List.replicate, List.getElem?_cons_zero, List.getElem?_cons_succ, List.set_cons_zero, List.set_cons_succ, List.getD_cons_zero, List.getD_cons_succ, Nat.reduceAdd, Nat.reduceSub, Nat.zero_add, true_and, and_true, Bool.not_true, Bool.not_false, if_true, if_false, Bool.false_eq_true, reduceIte, decide_eq_true_eq, Bool.not_eq_true', decide_eq_false_iff_not, eqV_int, eqV_str, eqV_bl, decide_true, reduceCtorEq, not_true_eq_false, not_false_eq_true, Bool.not_eq_true, List.not_mem_nil, false_implies, implies_true, Int.reduceNeg, Int.reduceToNat, Int.reducePow, Int.reduceMul, Int.reduceAdd, draw_i, ix_t0, ix_t1, ix_t2, ix_t3, ix_m3, ix_m4, sn_ball_box, sn_cell_box, sn_cell_ball, sn_ball_cell, sn_box_ball, sn_box_cell, decide_false]
    refine t.deed (by omega) fun M8 g1' e1' d1' t1 => ?_
    simp (disch := first | assumption | decide) only [wSeq, wNext, wAsg, wgName, wIfS, wB, wOp, wVar, wC, wCall, wCallK, wCons, wNil, wRet, wRetN, wDrop, wTup, wLst, wIf, wAnd, wOr, wNot, wAndV, wOrV, wNotV, wNeg, wChain, fI, fI0, addD, fLt, fLe, fGt, fGe, fIsB, wCB, fAbs, f2I, fInt, fIsq, wPar, wPar3, permD, startE, List.map_cons, List.map_nil, List.cons_append, List.nil_append, List.append_nil, List.length_cons, List.length_nil, List.replicate, List.getElem?_cons_zero, List.getElem?_cons_succ, List.set_cons_zero, List.set_cons_succ, List.getD_cons_zero, List.getD_cons_succ, Nat.reduceAdd, Nat.reduceSub, Nat.zero_add, true_and, and_true, Bool.not_true, Bool.not_false, if_true, if_false, Bool.false_eq_true, reduceIte, decide_eq_true_eq, Bool.not_eq_true', decide_eq_false_iff_not, eqV_int, eqV_str, eqV_bl, decide_true, reduceCtorEq, not_true_eq_false, not_false_eq_true, Bool.not_eq_true, List.not_mem_nil, false_implies, implies_true, Int.reduceNeg, Int.reduceToNat, Int.reducePow, Int.reduceMul, Int.reduceAdd, draw_i, ix_t0, ix_t1, ix_t2, ix_t3, ix_m3, ix_m4, sn_ball_box, sn_cell_box, sn_cell_ball, sn_ball_cell, sn_box_ball, sn_box_cell, decide_false]
    refine t1.swap.deed (by omega) fun M9 g2' e2' d2' t2 => ?_
    simp (disch := first | assumption | decide) only [wSeq, wNext, wAsg, wgName, wIfS, wB, wOp, wVar, wC, wCall, wCallK, wCons, wNil, wRet, wRetN, wDrop, wTup, wLst, wIf, wAnd, wOr, wNot, wAndV, wOrV, wNotV, wNeg, wChain, fI, fI0, addD, fLt, fLe, fGt, fGe, fIsB, wCB, fAbs, f2I, fInt, fIsq, wPar, wPar3, permD, startE, List.map_cons, List.map_nil, List.cons_append, List.nil_append, List.append_nil, List.length_cons, List.length_nil, List.replicate, List.getElem?_cons_zero, List.getElem?_cons_succ, List.set_cons_zero, List.set_cons_succ, List.getD_cons_zero, List.getD_cons_succ, Nat.reduceAdd, Nat.reduceSub, Nat.zero_add, true_and, and_true, Bool.not_true, Bool.not_false, if_true, if_false, Bool.false_eq_true, reduceIte, decide_eq_true_eq, Bool.not_eq_true', decide_eq_false_iff_not, eqV_int, eqV_str, eqV_bl, decide_true, reduceCtorEq, not_true_eq_false, not_false_eq_true, Bool.not_eq_true, List.not_mem_nil, false_implies, implies_true, Int.reduceNeg, Int.reduceToNat, Int.reducePow, Int.reduceMul, Int.reduceAdd, draw_i, ix_t0, ix_t1, ix_t2, ix_t3, ix_m3, ix_m4, sn_ball_box, sn_cell_box, sn_cell_ball, sn_ball_cell, sn_box_ball, sn_box_cell, decide_false]
    subst hK3
    have tt := t2.swap
    simp (disch := first | assumption | decide) only [wSeq, wNext, wAsg, wgName, wIfS, wB, wOp, wVar, wC, wCall, wCallK, wCons, wNil, wRet, wRetN, wDrop, wTup, wLst, wIf, wAnd, wOr, wNot, wAndV, wOrV, wNotV, wNeg, wChain, fI, fI0, addD, fLt, fLe, fGt, fGe, fIsB, wCB, fAbs, f2I, fInt, fIsq, wPar, wPar3, permD, startE, List.map_cons, List.map_nil, List.cons_append, List.nil_append, List.append_nil, List.length_cons, List.length_nil, List.replicate, List.getElem?_cons_zero, List.getElem?_cons_succ, List.set_cons_zero, List.set_cons_succ, List.getD_cons_zero, List.getD_cons_succ, Nat.reduceAdd, Nat.reduceSub, Nat.zero_add, true_and, and_true, Bool.not_true, Bool.not_false, if_true, if_false, Bool.false_eq_true, reduceIte, decide_eq_true_eq, Bool.not_eq_true', decide_eq_false_iff_not, eqV_int, eqV_str, eqV_bl, decide_true, reduceCtorEq, not_true_eq_false, not_false_eq_true, Bool.not_eq_true, List.not_mem_nil, false_implies, implies_true, Int.reduceNeg, Int.reduceToNat, Int.reducePow, Int.reduceMul, Int.reduceAdd, draw_i, ix_t0, ix_t1, ix_t2, ix_t3, ix_m3, ix_m4, sn_ball_box, sn_cell_box, sn_cell_ball, sn_ball_cell, sn_box_ball, sn_box_cell, decide_false, wMeth]
    refine ⟨ii tt.q1 _ (by decide), o1, g1', e1', rfl, tt.q1, ?_⟩
    refine ⟨_, seq_h tt.u1, ?_⟩
    simp (disch := first | assumption | decide) only [wSeq, wNext, wAsg, wgName, wIfS, wB, wOp, wVar, wC, wCall, wCallK, wCons, wNil, wRet, wRetN, wDrop, wTup, wLst, wIf, wAnd, wOr, wNot, wAndV, wOrV, wNotV, wNeg, wChain, fI, fI0, addD, fLt, fLe, fGt, fGe, fIsB, wCB, fAbs, f2I, fInt, fIsq, wPar, wPar3, permD, startE, List.map_cons, List.map_nil, List.cons_append, List.nil_append, List.append_nil, List.length_cons, List.length_nil, List.replicate, List.getElem?_cons_zero, List.getElem?_cons_succ, List.set_cons_zero, List.set_cons_succ, List.getD_cons_zero, List.getD_cons_succ, Nat.reduceAdd, Nat.reduceSub, Nat.zero_add, true_and, and_true, Bool.not_true, Bool.not_false, if_true, if_false, Bool.false_eq_true, reduceIte, decide_eq_true_eq, Bool.not_eq_true', decide_eq_false_iff_not, eqV_int, eqV_str, eqV_bl, decide_true, reduceCtorEq, not_true_eq_false, not_false_eq_true, Bool.not_eq_true, List.not_mem_nil, false_implies, implies_true, Int.reduceNeg, Int.reduceToNat, Int.reducePow, Int.reduceMul, Int.reduceAdd, draw_i, ix_t0, ix_t1, ix_t2, ix_t3, ix_m3, ix_m4, sn_ball_box, sn_cell_box, sn_cell_ball, sn_ball_cell, sn_box_ball, sn_box_cell, decide_false]
    rw [if_neg (by rw [List.length_map, tt.s1.length_eq]; exact fun z => z rfl)]
    refine ⟨ii tt.q1 _ (by decide), o1, g1', e1', rfl, tt.q1, ?_⟩
    refine isi_bool rfl ?_
    simp (disch := first | assumption | decide) only [wSeq, wNext, wAsg, wgName, wIfS, wB, wOp, wVar, wC, wCall, wCallK, wCons, wNil, wRet, wRetN, wDrop, wTup, wLst, wIf, wAnd, wOr, wNot, wAndV, wOrV, wNotV, wNeg, wChain, fI, fI0, addD, fLt, fLe, fGt, fGe, fIsB, wCB, fAbs, f2I, fInt, fIsq, wPar, wPar3, permD, startE, List.map_cons, List.map_nil, List.cons_append, List.nil_append, List.append_nil, List.length_cons, List.length_nil, List.replicate, List.getElem?_cons_zero, List.getElem?_cons_succ, List.set_cons_zero, List.set_cons_succ, List.getD_cons_zero, List.getD_cons_succ, Nat.reduceAdd, Nat.reduceSub, Nat.zero_add, true_and, and_true, Bool.not_true, Bool.not_false, if_true, if_false, Bool.false_eq_true, reduceIte, decide_eq_true_eq, Bool.not_eq_true', decide_eq_false_iff_not, eqV_int, eqV_str, eqV_bl, decide_true, reduceCtorEq, not_true_eq_false, not_false_eq_true, Bool.not_eq_true, List.not_mem_nil, false_implies, implies_true, Int.reduceNeg, Int.reduceToNat, Int.reducePow, Int.reduceMul, Int.reduceAdd, draw_i, ix_t0, ix_t1, ix_t2, ix_t3, ix_m3, ix_m4, sn_ball_box, sn_cell_box, sn_cell_ball, sn_ball_cell, sn_box_ball, sn_box_cell, decide_false]
    refine ⟨ii tt.q1 _ (by decide), o1, g1', e1', rfl, tt.q1, ?_⟩
    refine isi_tup rfl ?_
    simp (disch := first | assumption | decide) only [wSeq, wNext, wAsg, wgName, wIfS, wB, wOp, wVar, wC, wCall, wCallK, wCons, wNil, wRet, wRetN, wDrop, wTup, wLst, wIf, wAnd, wOr, wNot, wAndV, wOrV, wNotV, wNeg, wChain, fI, fI0, addD, fLt, fLe, fGt, fGe, fIsB, wCB, fAbs, f2I, fInt, fIsq, wPar, wPar3, permD, startE, List.map_cons, List.map_nil, List.cons_append, List.nil_append, List.append_nil, List.length_cons, List.length_nil, List.replicate, List.getElem?_cons_zero, List.getElem?_cons_succ, List.set_cons_zero, List.set_cons_succ, List.getD_cons_zero, List.getD_cons_succ, Nat.reduceAdd, Nat.reduceSub, Nat.zero_add, true_and, and_true, Bool.not_true, Bool.not_false, if_true, if_false, Bool.false_eq_true, reduceIte, decide_eq_true_eq, Bool.not_eq_true', decide_eq_false_iff_not, eqV_int, eqV_str, eqV_bl, decide_true, reduceCtorEq, not_true_eq_false, not_false_eq_true, Bool.not_eq_true, List.not_mem_nil, false_implies, implies_true, Int.reduceNeg, Int.reduceToNat, Int.reducePow, Int.reduceMul, Int.reduceAdd, draw_i, ix_t0, ix_t1, ix_t2, ix_t3, ix_m3, ix_m4, sn_ball_box, sn_cell_box, sn_cell_ball, sn_ball_cell, sn_box_ball, sn_box_cell, decide_false]
    exact hK2 _ _ ⟨g1', g2', e1', e2', d1', d2', _, tt.mono (by omega), rfl⟩
  · rintro ρ' M' ⟨g1, g2, e1, e2, d1, d2, v3, t, rfl⟩
    refine ⟨True.intro, ?_⟩
    show K _ _
    subst hK
    refine seq_gen fun K hK => ?_
    simp (disch := first | assumption | decide) only [wSeq, wNext, wAsg, wgName, wIfS, wB, wOp, wVar, wC, wCall, wCallK, wCons, wNil, wRet, wRetN, wDrop, wTup, wLst, wIf, wAnd, wOr, wNot, wAndV, wOrV, wNotV, wNeg, wChain, fI, fI0, addD, fLt, fLe, fGt, fGe, fIsB, wCB, fAbs, f2I, fInt, fIsq, wPar, wPar3, permD, startE, List.map_cons, List.map_nil, List.cons_append, List.nil_append, List.append_nil, List.length_cons, List.length_nil, List.replicate, List.getElem?_cons_zero, List.getElem?_cons_succ, List.set_cons_zero, List.set_cons_succ, List.getD_cons_zero, List.getD_cons_succ, Nat.reduceAdd, Nat.reduceSub, Nat.zero_add, true_and, and_true, Bool.not_true, Bool.not_false, if_true, if_false, Bool.false_eq_true, reduceIte, decide_eq_true_eq, Bool.not_eq_true', decide_eq_false_iff_not, eqV_int, eqV_str, eqV_bl, decide_true, reduceCtorEq, not_true_eq_false, not_false_eq_true, Bool.not_eq_true, List.not_mem_nil, false_implies, implies_true, Int.reduceNeg, Int.reduceToNat, Int.reducePow, Int.reduceMul, Int.reduceAdd, draw_i, ix_t0, ix_t1, ix_t2, ix_t3, ix_m3, ix_m4, sn_ball_box, sn_cell_box, sn_cell_ball, sn_ball_cell, sn_box_ball, sn_box_cell, decide_false]
    refine ⟨a, a0, rfl, t.ma, fun e => ?_⟩
    subst hK
    refine seq_gen fun K hK => ?_
    have l2 := t.l2
    have l2' := t.s2.length_eq
    have l1 := t.l1
    have l1' := t.s1.length_eq
    rw [intsD_len] at l1 l2
    simp (disch := first | assumption | decide) only [wSeq, wNext, wAsg, wgName, wIfS, wB, wOp, wVar, wC, wCall, wCallK, wCons, wNil, wRet, wRetN, wDrop, wTup, wLst, wIf, wAnd, wOr, wNot, wAndV, wOrV, wNotV, wNeg, wChain, fI, fI0, addD, fLt, fLe, fGt, fGe, fIsB, wCB, fAbs, f2I, fInt, fIsq, wPar, wPar3, permD, startE, List.map_cons, List.map_nil, List.cons_append, List.nil_append, List.append_nil, List.length_cons, List.length_nil, List.replicate, List.getElem?_cons_zero, List.getElem?_cons_succ, List.set_cons_zero, List.set_cons_succ, List.getD_cons_zero, List.getD_cons_succ, Nat.reduceAdd, Nat.reduceSub, Nat.zero_add, true_and, and_true, Bool.not_true, Bool.not_false, if_true, if_false, Bool.false_eq_true, reduceIte, decide_eq_true_eq, Bool.not_eq_true', decide_eq_false_iff_not, eqV_int, eqV_str, eqV_bl, decide_true, reduceCtorEq, not_true_eq_false, not_false_eq_true, Bool.not_eq_true, List.not_mem_nil, false_implies, implies_true, Int.reduceNeg, Int.reduceToNat, Int.reducePow, Int.reduceMul, Int.reduceAdd, draw_i, ix_t0, ix_t1, ix_t2, ix_t3, ix_m3, ix_m4, sn_ball_box, sn_cell_box, sn_cell_ball, sn_ball_cell, sn_box_ball, sn_box_cell, decide_false, wMethK]
    refine ⟨ii t.q2 _ (by decide), o2, g2, e2, e, rfl, t.q2, by omega, fun e2' pm2' hi2 => ?_⟩
    have le2 : e2'.length = e2.length + 1 := by rw [pm2'.length_eq, List.length_append, List.length_singleton]
    have ng21 : g2 ≠ o1 := fun z => by
      have k := t.q2.2.1
      rw [z, t.q1.1] at k
      cases k
    have qB := t.q2.put hi2 (by omega)
    have qA := t.q1.set (c := .lst (e2'.map Ent.d)) ng21 (Ne.symm t.x5)
    have uA : setM M' g2 (.lst (e2'.map Ent.d)) p7 = some (.lst (d1.map Ent.d)) := by rw [setM_ne t.x2]; exact t.u1
    have uB : setM M' g2 (.lst (e2'.map Ent.d)) p8 = some (.lst (d2.map Ent.d)) := by rw [setM_ne t.x4]; exact t.u2
    obtain ⟨MA, eA⟩ : ∃ MA, MA = setM M' g2 (.lst (e2'.map Ent.d)) := ⟨_, rfl⟩
    rw [← eA] at qB qA uA uB ⊢
    simp (disch := first | assumption | decide) only [wSeq, wNext, wAsg, wgName, wIfS, wB, wOp, wVar, wC, wCall, wCallK, wCons, wNil, wRet, wRetN, wDrop, wTup, wLst, wIf, wAnd, wOr, wNot, wAndV, wOrV, wNotV, wNeg, wChain, fI, fI0, addD, fLt, fLe, fGt, fGe, fIsB, wCB, fAbs, f2I, fInt, fIsq, wPar, wPar3, permD, startE, List.map_cons, List.map_nil, List.cons_append, List.nil_append, List.append_nil, List.length_cons, List.length_nil, List.replicate, List.getElem?_cons_zero, List.getElem?_cons_succ, List.set_cons_zero, List.set_cons_succ, List.getD_cons_zero, List.getD_cons_succ, Nat.reduceAdd, Nat.reduceSub, Nat.zero_add, true_and, and_true, Bool.not_true, Bool.not_false, if_true, if_false, Bool.false_eq_true, reduceIte, decide_eq_true_eq, Bool.not_eq_true', decide_eq_false_iff_not, eqV_int, eqV_str, eqV_bl, decide_true, reduceCtorEq, not_true_eq_false, not_false_eq_true, Bool.not_eq_true, List.not_mem_nil, false_implies, implies_true, Int.reduceNeg, Int.reduceToNat, Int.reducePow, Int.reduceMul, Int.reduceAdd, draw_i, ix_t0, ix_t1, ix_t2, ix_t3, ix_m3, ix_m4, sn_ball_box, sn_cell_box, sn_cell_ball, sn_ball_cell, sn_box_ball, sn_box_cell, decide_false, fIsN, wMeth]
    refine ⟨ii qB _ (by decide), o2, g2, e2', rfl, qB, ?_⟩
    refine ⟨_, seq_h uB, ?_⟩
    simp (disch := first | assumption | decide) only [wSeq, wNext, wAsg, wgName, wIfS, wB, wOp, wVar, wC, wCall, wCallK, wCons, wNil, wRet, wRetN, wDrop, wTup, wLst, wIf, wAnd, wOr, wNot, wAndV, wOrV, wNotV, wNeg, wChain, fI, fI0, addD, fLt, fLe, fGt, fGe, fIsB, wCB, fAbs, f2I, fInt, fIsq, wPar, wPar3, permD, startE, List.map_cons, List.map_nil, List.cons_append, List.nil_append, List.append_nil, List.length_cons, List.length_nil, List.replicate, List.getElem?_cons_zero, List.getElem?_cons_succ, List.set_cons_zero, List.set_cons_succ, List.getD_cons_zero, List.getD_cons_succ, Nat.reduceAdd, Nat.reduceSub, Nat.zero_add, true_and, and_true, Bool.not_true, Bool.not_false, if_true, if_false, Bool.false_eq_true, reduceIte, decide_eq_true_eq, Bool.not_eq_true', decide_eq_false_iff_not, eqV_int, eqV_str, eqV_bl, decide_true, reduceCtorEq, not_true_eq_false, not_false_eq_true, Bool.not_eq_true, List.not_mem_nil, false_implies, implies_true, Int.reduceNeg, Int.reduceToNat, Int.reducePow, Int.reduceMul, Int.reduceAdd, draw_i, ix_t0, ix_t1, ix_t2, ix_t3, ix_m3, ix_m4, sn_ball_box, sn_cell_box, sn_cell_ball, sn_ball_cell, sn_box_ball, sn_box_cell, decide_false]
    rw [if_neg (by rw [List.length_map, le2, t.s2.length_eq]; exact fun z => z (by omega))]
    have pB : (d2 ++ [e]).Perm e2' := (t.s2.append_right [e]).trans pm2'.symm
    subst hK
    refine seq_gen fun K hK => ?_
    refine for_gen fun B hB => ?_
    simp (disch := first | assumption | decide) only [wSeq, wNext, wAsg, wgName, wIfS, wB, wOp, wVar, wC, wCall, wCallK, wCons, wNil, wRet, wRetN, wDrop, wTup, wLst, wIf, wAnd, wOr, wNot, wAndV, wOrV, wNotV, wNeg, wChain, fI, fI0, addD, fLt, fLe, fGt, fGe, fIsB, wCB, fAbs, f2I, fInt, fIsq, wPar, wPar3, permD, startE, List.map_cons, List.map_nil, List.cons_append, List.nil_append, List.append_nil, List.length_cons, List.length_nil, List.replicate, List.getElem?_cons_zero, List.getElem?_cons_succ, List.set_cons_zero, List.set_cons_succ, List.getD_cons_zero, List.getD_cons_succ, Nat.reduceAdd, Nat.reduceSub, Nat.zero_add, true_and, and_true, Bool.not_true, Bool.not_false, if_true, if_false, Bool.false_eq_true, reduceIte, decide_eq_true_eq, Bool.not_eq_true', decide_eq_false_iff_not, eqV_int, eqV_str, eqV_bl, decide_true, reduceCtorEq, not_true_eq_false, not_false_eq_true, Bool.not_eq_true, List.not_mem_nil, false_implies, implies_true, Int.reduceNeg, Int.reduceToNat, Int.reducePow, Int.reduceMul, Int.reduceAdd, draw_i, ix_t0, ix_t1, ix_t2, ix_t3, ix_m3, ix_m4, sn_ball_box, sn_cell_box, sn_cell_ball, sn_ball_cell, sn_box_ball, sn_box_cell, decide_false, wFor, wiSeq]
    refine ⟨by decide, by decide, _, _, ⟨p8, .inl rfl⟩, ⟨0, .inr rfl⟩, seq_h uB, rfl, ?_, by decide, by decide, ?_⟩
    · rw [List.length_map, List.length_singleton]
      exact Nat.le_trans (by omega : d2.length + 1 ≤ 1000) (by decide)
    rw [show d2.map Ent.d ++ [e.d] = (d2 ++ [e]).map Ent.d from by rw [List.map_append]; rfl]
    have dr : ∀ (o h : Addr) (xs due : List Ent) (v : D) (v11 : Option D) (M' : Mp) (K2 : En → Mp → Prop), qAt M' o h xs → due.Perm xs → (∃ a, v = .tok a ∨ v = .lst (due.map Ent.d)) → seqD M' v = some (due.map Ent.d) →
        (∀ v11 M'', qAt M'' o h [] → (∀ b, b ≠ h → M'' b = M' b) → K2 [some (.lst (ns.map .int)), some (.tok a), some (.lst (es.map Ent.d)), v3, some e.d, some (.lst [.tok o, v]), some (.tok p6), some (.tok p7), some (.tok p8), some (.tok o1), some (.tok o2), v11] M'') →
        B { nx := K2, rt := Q, bk := K, ct := K2, xr := lx R } [some (.lst (ns.map .int)), some (.tok a), some (.lst (es.map Ent.d)), v3, some e.d, some (.lst [.tok o, v]), some (.tok p6), some (.tok p7), some (.tok p8), some (.tok o1), some (.tok o2), v11] M' := by
      intro o h xs due v v11 M' K2 hq pd hv hs hK2
      rw [hB]
      refine seq_gen fun K3 hK3 => ?_
      refine for_gen fun B2 hB2 => ?_
      simp (disch := first | assumption | decide) only [wSeq, wNext, wAsg, wgName, wIfS, wB, wOp, wVar, wC, wCall, wCallK, wCons, wNil, wRet, wRetN, wDrop, wTup, wLst, wIf, wAnd, wOr, wNot, wAndV, wOrV, wNotV, wNeg, wChain, fI, fI0, addD, fLt, fLe, fGt, fGe, fIsB, wCB, fAbs, f2I, fInt, fIsq, wPar, wPar3, permD, startE, List.map_cons, List.map_nil, List.cons_append, List.nil_append, List.append_nil, List.length_cons, List.length_nil, List.replicate, List.getElem?_cons_zero, List.getElem?_cons_succ, List.set_cons_zero, List.set_cons_succ, List.getD_cons_zero, List.getD_cons_succ, Nat.reduceAdd, Nat.reduceSub, Nat.zero_add, true_and, and_true, Bool.not_true, Bool.not_false, if_true, if_false, Bool.false_eq_true, reduceIte, decide_eq_true_eq, Bool.not_eq_true', decide_eq_false_iff_not, eqV_int, eqV_str, eqV_bl, decide_true, reduceCtorEq, not_true_eq_false, not_false_eq_true, Bool.not_eq_true, List.not_mem_nil, false_implies, implies_true, Int.reduceNeg, Int.reduceToNat, Int.reducePow, Int.reduceMul, Int.reduceAdd, draw_i, ix_t0, ix_t1, ix_t2, ix_t3, ix_m3, ix_m4, sn_ball_box, sn_cell_box, sn_cell_ball, sn_ball_cell, sn_box_ball, sn_box_cell, decide_false, wFor, wiSeq]
      refine ⟨_, _, rfl, at1, ?_⟩
      refine srt_ok (es := due) hv hs ?_
      rw [srt_eq pd]
      simp (disch := first | assumption | decide) only [wSeq, wNext, wAsg, wgName, wIfS, wB, wOp, wVar, wC, wCall, wCallK, wCons, wNil, wRet, wRetN, wDrop, wTup, wLst, wIf, wAnd, wOr, wNot, wAndV, wOrV, wNotV, wNeg, wChain, fI, fI0, addD, fLt, fLe, fGt, fGe, fIsB, wCB, fAbs, f2I, fInt, fIsq, wPar, wPar3, permD, startE, List.map_cons, List.map_nil, List.cons_append, List.nil_append, List.append_nil, List.length_cons, List.length_nil, List.replicate, List.getElem?_cons_zero, List.getElem?_cons_succ, List.set_cons_zero, List.set_cons_succ, List.getD_cons_zero, List.getD_cons_succ, Nat.reduceAdd, Nat.reduceSub, Nat.zero_add, true_and, and_true, Bool.not_true, Bool.not_false, if_true, if_false, Bool.false_eq_true, reduceIte, decide_eq_true_eq, Bool.not_eq_true', decide_eq_false_iff_not, eqV_int, eqV_str, eqV_bl, decide_true, reduceCtorEq, not_true_eq_false, not_false_eq_true, Bool.not_eq_true, List.not_mem_nil, false_implies, implies_true, Int.reduceNeg, Int.reduceToNat, Int.reducePow, Int.reduceMul, Int.reduceAdd, draw_i, ix_t0, ix_t1, ix_t2, ix_t3, ix_m3, ix_m4, sn_ball_box, sn_cell_box, sn_cell_ball, sn_ball_cell, sn_box_ball, sn_box_cell, decide_false]
      refine loop_ix (fun i ρ' M'' => ∃ (w11 : Option D) (ys : List Ent), ρ' = [some (.lst (ns.map .int)), some (.tok a), some (.lst (es.map Ent.d)), v3, some e.d, some (.lst [.tok o, v]), some (.tok p6), some (.tok p7), some (.tok p8), some (.tok o1), some (.tok o2), w11] ∧ qAt M'' o h ys ∧ srtD (ys.map Ent.d) = (srtD (xs.map Ent.d)).drop i ∧ ∀ b, b ≠ h → M'' b = M' b) ?_ ?_ ⟨_, xs, rfl, hq, rfl, fun _ _ => rfl⟩
      · rintro i d ρ' M'' hi ⟨w11, ys, rfl, hy, hd, hf⟩
        refine ⟨True.intro, fun K4 hK4 => ?_⟩
        obtain ⟨li, di⟩ := List.getElem?_eq_some_iff.mp hi
        rw [List.drop_eq_getElem_cons li, di] at hd
        cases ys with
        | nil =>
          rw [show srtD (([] : List Ent).map Ent.d) = [] from by simp [srtD]] at hd
          cases hd
        | cons x r =>
          rw [srt_cons hy.2.2.1] at hd
          obtain ⟨ex, hd2⟩ := List.cons.inj hd
          subst ex
          subst hB2
          simp (disch := first | assumption | decide) only [wSeq, wNext, wAsg, wgName, wIfS, wB, wOp, wVar, wC, wCall, wCallK, wCons, wNil, wRet, wRetN, wDrop, wTup, wLst, wIf, wAnd, wOr, wNot, wAndV, wOrV, wNotV, wNeg, wChain, fI, fI0, addD, fLt, fLe, fGt, fGe, fIsB, wCB, fAbs, f2I, fInt, fIsq, wPar, wPar3, permD, startE, List.map_cons, List.map_nil, List.cons_append, List.nil_append, List.append_nil, List.length_cons, List.length_nil, List.replicate, List.getElem?_cons_zero, List.getElem?_cons_succ, List.set_cons_zero, List.set_cons_succ, List.getD_cons_zero, List.getD_cons_succ, Nat.reduceAdd, Nat.reduceSub, Nat.zero_add, true_and, and_true, Bool.not_true, Bool.not_false, if_true, if_false, Bool.false_eq_true, reduceIte, decide_eq_true_eq, Bool.not_eq_true', decide_eq_false_iff_not, eqV_int, eqV_str, eqV_bl, decide_true, reduceCtorEq, not_true_eq_false, not_false_eq_true, Bool.not_eq_true, List.not_mem_nil, false_implies, implies_true, Int.reduceNeg, Int.reduceToNat, Int.reducePow, Int.reduceMul, Int.reduceAdd, draw_i, ix_t0, ix_t1, ix_t2, ix_t3, ix_m3, ix_m4, sn_ball_box, sn_cell_box, sn_cell_ball, sn_ball_cell, sn_box_ball, sn_box_cell, decide_false]
          refine ⟨_, _, rfl, at0, least_f hy (nee_ent ?_)⟩
          simp (disch := first | assumption | decide) only [wSeq, wNext, wAsg, wgName, wIfS, wB, wOp, wVar, wC, wCall, wCallK, wCons, wNil, wRet, wRetN, wDrop, wTup, wLst, wIf, wAnd, wOr, wNot, wAndV, wOrV, wNotV, wNeg, wChain, fI, fI0, addD, fLt, fLe, fGt, fGe, fIsB, wCB, fAbs, f2I, fInt, fIsq, wPar, wPar3, permD, startE, List.map_cons, List.map_nil, List.cons_append, List.nil_append, List.append_nil, List.length_cons, List.length_nil, List.replicate, List.getElem?_cons_zero, List.getElem?_cons_succ, List.set_cons_zero, List.set_cons_succ, List.getD_cons_zero, List.getD_cons_succ, Nat.reduceAdd, Nat.reduceSub, Nat.zero_add, true_and, and_true, Bool.not_true, Bool.not_false, if_true, if_false, Bool.false_eq_true, reduceIte, decide_eq_true_eq, Bool.not_eq_true', decide_eq_false_iff_not, eqV_int, eqV_str, eqV_bl, decide_true, reduceCtorEq, not_true_eq_false, not_false_eq_true, Bool.not_eq_true, List.not_mem_nil, false_implies, implies_true, Int.reduceNeg, Int.reduceToNat, Int.reducePow, Int.reduceMul, Int.reduceAdd, draw_i, ix_t0, ix_t1, ix_t2, ix_t3, ix_m3, ix_m4, sn_ball_box, sn_cell_box, sn_cell_ball, sn_ball_cell, sn_box_ball, sn_box_cell, decide_false]
          refine ⟨_, _, rfl, at0, least_t hy fun es' pm hi' => nee_ent ?_⟩
          simp (disch := first | assumption | decide) only [wSeq, wNext, wAsg, wgName, wIfS, wB, wOp, wVar, wC, wCall, wCallK, wCons, wNil, wRet, wRetN, wDrop, wTup, wLst, wIf, wAnd, wOr, wNot, wAndV, wOrV, wNotV, wNeg, wChain, fI, fI0, addD, fLt, fLe, fGt, fGe, fIsB, wCB, fAbs, f2I, fInt, fIsq, wPar, wPar3, permD, startE, List.map_cons, List.map_nil, List.cons_append, List.nil_append, List.append_nil, List.length_cons, List.length_nil, List.replicate, List.getElem?_cons_zero, List.getElem?_cons_succ, List.set_cons_zero, List.set_cons_succ, List.getD_cons_zero, List.getD_cons_succ, Nat.reduceAdd, Nat.reduceSub, Nat.zero_add, true_and, and_true, Bool.not_true, Bool.not_false, if_true, if_false, Bool.false_eq_true, reduceIte, decide_eq_true_eq, Bool.not_eq_true', decide_eq_false_iff_not, eqV_int, eqV_str, eqV_bl, decide_true, reduceCtorEq, not_true_eq_false, not_false_eq_true, Bool.not_eq_true, List.not_mem_nil, false_implies, implies_true, Int.reduceNeg, Int.reduceToNat, Int.reducePow, Int.reduceMul, Int.reduceAdd, draw_i, ix_t0, ix_t1, ix_t2, ix_t3, ix_m3, ix_m4, sn_ball_box, sn_cell_box, sn_cell_ball, sn_ball_cell, sn_box_ball, sn_box_cell, decide_false]
          have l' : es'.length ≤ 1000 := by
            have k := hy.2.2.2
            rw [List.length_cons] at k
            rw [pm.length_eq]
            omega
          exact hK4 _ _ ⟨_, es', rfl, hy.put hi' l', by rw [srt_eq pm]; exact hd2, fun b hb => by rw [setM_ne hb]; exact hf b hb⟩
      · rintro ρ' M'' ⟨w11, ys, rfl, hy, hd, hf⟩
        rw [List.drop_length] at hd
        obtain rfl := srt_nil hd
        refine ⟨True.intro, ?_⟩
        show K3 _ _
        subst hK3
        simp (disch := first | assumption | decide) only [wSeq, wNext, wAsg, wgName, wIfS, wB, wOp, wVar, wC, wCall, wCallK, wCons, wNil, wRet, wRetN, wDrop, wTup, wLst, wIf, wAnd, wOr, wNot, wAndV, wOrV, wNotV, wNeg, wChain, fI, fI0, addD, fLt, fLe, fGt, fGe, fIsB, wCB, fAbs, f2I, fInt, fIsq, wPar, wPar3, permD, startE, List.map_cons, List.map_nil, List.cons_append, List.nil_append, List.append_nil, List.length_cons, List.length_nil, List.replicate, List.getElem?_cons_zero, List.getElem?_cons_succ, List.set_cons_zero, List.set_cons_succ, List.getD_cons_zero, List.getD_cons_succ, Nat.reduceAdd, Nat.reduceSub, Nat.zero_add, true_and, and_true, Bool.not_true, Bool.not_false, if_true, if_false, Bool.false_eq_true, reduceIte, decide_eq_true_eq, Bool.not_eq_true', decide_eq_false_iff_not, eqV_int, eqV_str, eqV_bl, decide_true, reduceCtorEq, not_true_eq_false, not_false_eq_true, Bool.not_eq_true, List.not_mem_nil, false_implies, implies_true, Int.reduceNeg, Int.reduceToNat, Int.reducePow, Int.reduceMul, Int.reduceAdd, draw_i, ix_t0, ix_t1, ix_t2, ix_t3, ix_m3, ix_m4, sn_ball_box, sn_cell_box, sn_cell_ball, sn_ball_cell, sn_box_ball, sn_box_cell, decide_false]
        refine ⟨_, _, rfl, at0, least_n hy ?_⟩
        simp (disch := first | assumption | decide) only [wSeq, wNext, wAsg, wgName, wIfS, wB, wOp, wVar, wC, wCall, wCallK, wCons, wNil, wRet, wRetN, wDrop, wTup, wLst, wIf, wAnd, wOr, wNot, wAndV, wOrV, wNotV, wNeg, wChain, fI, fI0, addD, fLt, fLe, fGt, fGe, fIsB, wCB, fAbs, f2I, fInt, fIsq, wPar, wPar3, permD, startE, List.map_cons, List.map_nil, List.cons_append, List.nil_append, List.append_nil, List.length_cons, List.length_nil, List.replicate, List.getElem?_cons_zero, List.getElem?_cons_succ, List.set_cons_zero, List.set_cons_succ, List.getD_cons_zero, List.getD_cons_succ, Nat.reduceAdd, Nat.reduceSub, Nat.zero_add, true_and, and_true, Bool.not_true, Bool.not_false, if_true, if_false, Bool.false_eq_true, reduceIte, decide_eq_true_eq, Bool.not_eq_true', decide_eq_false_iff_not, eqV_int, eqV_str, eqV_bl, decide_true, reduceCtorEq, not_true_eq_false, not_false_eq_true, Bool.not_eq_true, List.not_mem_nil, false_implies, implies_true, Int.reduceNeg, Int.reduceToNat, Int.reducePow, Int.reduceMul, Int.reduceAdd, draw_i, ix_t0, ix_t1, ix_t2, ix_t3, ix_m3, ix_m4, sn_ball_box, sn_cell_box, sn_cell_ball, sn_ball_cell, sn_box_ball, sn_box_cell, decide_false, fIsN]
        refine ⟨_, _, rfl, at0, least_n hy ?_⟩
        simp (disch := first | assumption | decide) only [wSeq, wNext, wAsg, wgName, wIfS, wB, wOp, wVar, wC, wCall, wCallK, wCons, wNil, wRet, wRetN, wDrop, wTup, wLst, wIf, wAnd, wOr, wNot, wAndV, wOrV, wNotV, wNeg, wChain, fI, fI0, addD, fLt, fLe, fGt, fGe, fIsB, wCB, fAbs, f2I, fInt, fIsq, wPar, wPar3, permD, startE, List.map_cons, List.map_nil, List.cons_append, List.nil_append, List.append_nil, List.length_cons, List.length_nil, List.replicate, List.getElem?_cons_zero, List.getElem?_cons_succ, List.set_cons_zero, List.set_cons_succ, List.getD_cons_zero, List.getD_cons_succ, Nat.reduceAdd, Nat.reduceSub, Nat.zero_add, true_and, and_true, Bool.not_true, Bool.not_false, if_true, if_false, Bool.false_eq_true, reduceIte, decide_eq_true_eq, Bool.not_eq_true', decide_eq_false_iff_not, eqV_int, eqV_str, eqV_bl, decide_true, reduceCtorEq, not_true_eq_false, not_false_eq_true, Bool.not_eq_true, List.not_mem_nil, false_implies, implies_true, Int.reduceNeg, Int.reduceToNat, Int.reducePow, Int.reduceMul, Int.reduceAdd, draw_i, ix_t0, ix_t1, ix_t2, ix_t3, ix_m3, ix_m4, sn_ball_box, sn_cell_box, sn_cell_ball, sn_ball_cell, sn_box_ball, sn_box_cell, decide_false, fIsN]
        exact hK2 _ _ hy hf
    refine ⟨True.intro, ?_⟩
    simp (disch := first | assumption | decide) only [wSeq, wNext, wAsg, wgName, wIfS, wB, wOp, wVar, wC, wCall, wCallK, wCons, wNil, wRet, wRetN, wDrop, wTup, wLst, wIf, wAnd, wOr, wNot, wAndV, wOrV, wNotV, wNeg, wChain, fI, fI0, addD, fLt, fLe, fGt, fGe, fIsB, wCB, fAbs, f2I, fInt, fIsq, wPar, wPar3, permD, startE, List.map_cons, List.map_nil, List.cons_append, List.nil_append, List.append_nil, List.length_cons, List.length_nil, List.replicate, List.getElem?_cons_zero, List.getElem?_cons_succ, List.set_cons_zero, List.set_cons_succ, List.getD_cons_zero, List.getD_cons_succ, Nat.reduceAdd, Nat.reduceSub, Nat.zero_add, true_and, and_true, Bool.not_true, Bool.not_false, if_true, if_false, Bool.false_eq_true, reduceIte, decide_eq_true_eq, Bool.not_eq_true', decide_eq_false_iff_not, eqV_int, eqV_str, eqV_bl, decide_true, reduceCtorEq, not_true_eq_false, not_false_eq_true, Bool.not_eq_true, List.not_mem_nil, false_implies, implies_true, Int.reduceNeg, Int.reduceToNat, Int.reducePow, Int.reduceMul, Int.reduceAdd, draw_i, ix_t0, ix_t1, ix_t2, ix_t3, ix_m3, ix_m4, sn_ball_box, sn_cell_box, sn_cell_ball, sn_ball_cell, sn_box_ball, sn_box_cell, decide_false]
    refine dr o1 g1 e1 d1 (.tok p7) _ MA _ qA t.s1 ⟨p7, .inl rfl⟩ (seq_h uA) fun v11 MB qB1 fB => ?_
    refine ⟨True.intro, ?_⟩
    simp (disch := first | assumption | decide) only [wSeq, wNext, wAsg, wgName, wIfS, wB, wOp, wVar, wC, wCall, wCallK, wCons, wNil, wRet, wRetN, wDrop, wTup, wLst, wIf, wAnd, wOr, wNot, wAndV, wOrV, wNotV, wNeg, wChain, fI, fI0, addD, fLt, fLe, fGt, fGe, fIsB, wCB, fAbs, f2I, fInt, fIsq, wPar, wPar3, permD, startE, List.map_cons, List.map_nil, List.cons_append, List.nil_append, List.append_nil, List.length_cons, List.length_nil, List.replicate, List.getElem?_cons_zero, List.getElem?_cons_succ, List.set_cons_zero, List.set_cons_succ, List.getD_cons_zero, List.getD_cons_succ, Nat.reduceAdd, Nat.reduceSub, Nat.zero_add, true_and, and_true, Bool.not_true, Bool.not_false, if_true, if_false, Bool.false_eq_true, reduceIte, decide_eq_true_eq, Bool.not_eq_true', decide_eq_false_iff_not, eqV_int, eqV_str, eqV_bl, decide_true, reduceCtorEq, not_true_eq_false, not_false_eq_true, Bool.not_eq_true, List.not_mem_nil, false_implies, implies_true, Int.reduceNeg, Int.reduceToNat, Int.reducePow, Int.reduceMul, Int.reduceAdd, draw_i, ix_t0, ix_t1, ix_t2, ix_t3, ix_m3, ix_m4, sn_ball_box, sn_cell_box, sn_cell_ball, sn_ball_cell, sn_box_ball, sn_box_cell, decide_false]
    have no2 : o2 ≠ g1 := fun z => by
      have k := t.q2.1
      rw [z, t.q1.2.1] at k
      cases k
    have qB2 : qAt MB o2 g2 e2' := ⟨by rw [fB _ no2]; exact qB.1, by rw [fB _ (Ne.symm t.x5)]; exact qB.2.1, qB.2.2⟩
    refine dr o2 g2 e2' (d2 ++ [e]) (.lst ((d2 ++ [e]).map Ent.d)) _ MB _ qB2 pB ⟨0, .inr rfl⟩ rfl fun v11' MC qC2 fC => ?_
    have no1 : o1 ≠ g2 := Ne.symm ng21
    have qC1 : qAt MC o1 g1 [] := ⟨by rw [fC _ no1]; exact qB1.1, by rw [fC _ t.x5]; exact qB1.2.1, qB1.2.2⟩
    refine ⟨True.intro, ?_⟩
    show K _ _
    subst hK
    simp (disch := first | assumption | decide) only [wSeq, wNext, wAsg, wgName, wIfS, wB, wOp, wVar, wC, wCall, wCallK, wCons, wNil, wRet, wRetN, wDrop, wTup, wLst, wIf, wAnd, wOr, wNot, wAndV, wOrV, wNotV, wNeg, wChain, fI, fI0, addD, fLt, fLe, fGt, fGe, fIsB, wCB, fAbs, f2I, fInt, fIsq, wPar, wPar3, permD, startE, List.map_cons, List.map_nil, List.cons_append, List.nil_append, List.append_nil, List.length_cons, List.length_nil, List.replicate, List.getElem?_cons_zero, List.getElem?_cons_succ, List.set_cons_zero, List.set_cons_succ, List.getD_cons_zero, List.getD_cons_succ, Nat.reduceAdd, Nat.reduceSub, Nat.zero_add, true_and, and_true, Bool.not_true, Bool.not_false, if_true, if_false, Bool.false_eq_true, reduceIte, decide_eq_true_eq, Bool.not_eq_true', decide_eq_false_iff_not, eqV_int, eqV_str, eqV_bl, decide_true, reduceCtorEq, not_true_eq_false, not_false_eq_true, Bool.not_eq_true, List.not_mem_nil, false_implies, implies_true, Int.reduceNeg, Int.reduceToNat, Int.reducePow, Int.reduceMul, Int.reduceAdd, draw_i, ix_t0, ix_t1, ix_t2, ix_t3, ix_m3, ix_m4, sn_ball_box, sn_cell_box, sn_cell_ball, sn_ball_cell, sn_box_ball, sn_box_cell, decide_false, wMeth]
    have e0 : srtD (([] : List Ent).map Ent.d) = ([] : List Ent).map Ent.d := by simp [srtD]
    refine ⟨ii qC1 _ (by decide), o1, g1, [], rfl, qC1, fun h' MD hn qD fr => ?_⟩
    refine ⟨by decide, eq_ents (es := []) e0 rfl ?_⟩
    simp (disch := first | assumption | decide) only [wSeq, wNext, wAsg, wgName, wIfS, wB, wOp, wVar, wC, wCall, wCallK, wCons, wNil, wRet, wRetN, wDrop, wTup, wLst, wIf, wAnd, wOr, wNot, wAndV, wOrV, wNotV, wNeg, wChain, fI, fI0, addD, fLt, fLe, fGt, fGe, fIsB, wCB, fAbs, f2I, fInt, fIsq, wPar, wPar3, permD, startE, List.map_cons, List.map_nil, List.cons_append, List.nil_append, List.append_nil, List.length_cons, List.length_nil, List.replicate, List.getElem?_cons_zero, List.getElem?_cons_succ, List.set_cons_zero, List.set_cons_succ, List.getD_cons_zero, List.getD_cons_succ, Nat.reduceAdd, Nat.reduceSub, Nat.zero_add, true_and, and_true, Bool.not_true, Bool.not_false, if_true, if_false, Bool.false_eq_true, reduceIte, decide_eq_true_eq, Bool.not_eq_true', decide_eq_false_iff_not, eqV_int, eqV_str, eqV_bl, decide_true, reduceCtorEq, not_true_eq_false, not_false_eq_true, Bool.not_eq_true, List.not_mem_nil, false_implies, implies_true, Int.reduceNeg, Int.reduceToNat, Int.reducePow, Int.reduceMul, Int.reduceAdd, draw_i, ix_t0, ix_t1, ix_t2, ix_t3, ix_m3, ix_m4, sn_ball_box, sn_cell_box, sn_cell_ball, sn_ball_cell, sn_box_ball, sn_box_cell, decide_false]
    refine ⟨ii qD _ (by decide), o1, h', [], rfl, qD, ?_⟩
    refine ⟨by decide, eq_ents (es := []) e0 rfl ?_⟩
    simp (disch := first | assumption | decide) only [wSeq, wNext, wAsg, wgName, wIfS, wB, wOp, wVar, wC, wCall, wCallK, wCons, wNil, wRet, wRetN, wDrop, wTup, wLst, wIf, wAnd, wOr, wNot, wAndV, wOrV, wNotV, wNeg, wChain, fI, fI0, addD, fLt, fLe, fGt, fGe, fIsB, wCB, fAbs, f2I, fInt, fIsq, wPar, wPar3, permD, startE, List.map_cons, List.map_nil, List.cons_append, List.nil_append, List.append_nil, List.length_cons, List.length_nil, List.replicate, List.getElem?_cons_zero, List.getElem?_cons_succ, List.set_cons_zero, List.set_cons_succ, List.getD_cons_zero, List.getD_cons_succ, Nat.reduceAdd, Nat.reduceSub, Nat.zero_add, true_and, and_true, Bool.not_true, Bool.not_false, if_true, if_false, Bool.false_eq_true, reduceIte, decide_eq_true_eq, Bool.not_eq_true', decide_eq_false_iff_not, eqV_int, eqV_str, eqV_bl, decide_true, reduceCtorEq, not_true_eq_false, not_false_eq_true, Bool.not_eq_true, List.not_mem_nil, false_implies, implies_true, Int.reduceNeg, Int.reduceToNat, Int.reducePow, Int.reduceMul, Int.reduceAdd, draw_i, ix_t0, ix_t1, ix_t2, ix_t3, ix_m3, ix_m4, sn_ball_box, sn_cell_box, sn_cell_ball, sn_ball_cell, sn_box_ball, sn_box_cell, decide_false]
    refine ⟨ii qD _ (by decide), o1, h', [], rfl, qD, ?_⟩
    exact eqq_int (q MD)
end K31
namespace K31
open PySem L2 L3
theorem len_Queue___init__ : ∀ ds M Q E, F_Queue___init__ ds M Q E → ds.length = 2 := by
  rintro ds M Q E ⟨_, _, _, rfl, _⟩
  rfl
theorem len_Queue_how_many : ∀ ds M Q E, F_Queue_how_many ds M Q E → ds.length = 1 := by
  rintro ds M Q E ⟨_, _, _, rfl, _⟩
  rfl
theorem len_Queue_put : ∀ ds M Q E, F_Queue_put ds M Q E → ds.length = 2 := by
  rintro ds M Q E ⟨_, _, _, _, rfl, _⟩
  rfl
theorem len_Queue_first : ∀ ds M Q E, F_Queue_first ds M Q E → ds.length = 1 := by
  rintro ds M Q E ⟨_, _, _, rfl, _⟩
  rfl
theorem len_Queue_take : ∀ ds M Q E, F_Queue_take ds M Q E → ds.length = 1 := by
  rintro ds M Q E ⟨_, _, _, rfl, _⟩
  rfl
theorem len_Queue_listed : ∀ ds M Q E, F_Queue_listed ds M Q E → ds.length = 1 := by
  rintro ds M Q E ⟨_, _, _, rfl, _⟩
  rfl
theorem len_Queue_take_all : ∀ ds M Q E, F_Queue_take_all ds M Q E → ds.length = 1 := by
  rintro ds M Q E ⟨_, _, _, rfl, _⟩
  rfl
theorem len__law_heap : ∀ ds M Q E, F__law_heap ds M Q E → ds.length = 1 := by
  rintro ds M Q E ⟨_, rfl, _⟩
  rfl
theorem len__law_pick : ∀ ds M Q E, pickF ds M Q E → ds.length = 2 := by
  rintro ds M Q E ⟨_, _, _, _, rfl, _⟩
  rfl
theorem len__law_entry : ∀ ds M Q E, F__law_entry ds M Q E → ds.length = 1 := by
  rintro ds M Q E ⟨_, _, rfl, _⟩
  rfl
theorem len__law_least : ∀ ds M Q E, F__law_least ds M Q E → ds.length = 2 := by
  rintro ds M Q E ⟨_, _, _, _, rfl, _⟩
  rfl
theorem len__law_deed : ∀ ds M Q E, F__law_deed ds M Q E → ds.length = 3 := by
  rintro ds M Q E ⟨_, _, _, _, _, _, _, rfl, _⟩
  rfl
theorem len_law : ∀ ds M Q E, F_law ds M Q E → ds.length = 1 := by
  rintro ds M Q E ⟨_, rfl, _⟩
  rfl
/-! ### all together -/
theorem all_mk {l : PySem.W.OpenLaw} (hl : l.prog = PySem.Challenge.pw_nonearer_k31_whole_queues) {w : World} {K : PySem.W.Frag} {h : Heap} {mg : Str → Option Value} {fa : Addr} (X : K.In h) (G : h.Ns mainGlobals mg) (hfa : mg "law" = some (.ref fa))
    {c_Queue : Addr}
    {f0 : Addr} {od0 an0 : Option Addr} {sl0 : Array (Option Value)} {oc0 kV0 dc0 pm0 cd0 ct0 : Value}
    {f1 : Addr} {od1 an1 : Option Addr} {sl1 : Array (Option Value)} {oc1 kV1 dc1 pm1 cd1 ct1 : Value}
    {f2 : Addr} {od2 an2 : Option Addr} {sl2 : Array (Option Value)} {oc2 kV2 dc2 pm2 cd2 ct2 : Value}
    {f3 : Addr} {od3 an3 : Option Addr} {sl3 : Array (Option Value)} {oc3 kV3 dc3 pm3 cd3 ct3 : Value}
    {f4 : Addr} {od4 an4 : Option Addr} {sl4 : Array (Option Value)} {oc4 kV4 dc4 pm4 cd4 ct4 : Value}
    {f5 : Addr} {od5 an5 : Option Addr} {sl5 : Array (Option Value)} {oc5 kV5 dc5 pm5 cd5 ct5 : Value}
    {f6 : Addr} {od6 an6 : Option Addr} {sl6 : Array (Option Value)} {oc6 kV6 dc6 pm6 cd6 ct6 : Value}
    {f7 : Addr} {od7 an7 : Option Addr} {sl7 : Array (Option Value)} {oc7 kV7 dc7 pm7 cd7 ct7 : Value}
    {f8 : Addr} {od8 an8 : Option Addr} {sl8 : Array (Option Value)} {oc8 kV8 dc8 pm8 cd8 ct8 : Value}
    {f9 : Addr} {od9 an9 : Option Addr} {sl9 : Array (Option Value)} {oc9 kV9 dc9 pm9 cd9 ct9 : Value}
    {f10 : Addr} {od10 an10 : Option Addr} {sl10 : Array (Option Value)} {oc10 kV10 dc10 pm10 cd10 ct10 : Value}
    {f11 : Addr} {od11 an11 : Option Addr} {sl11 : Array (Option Value)} {oc11 kV11 dc11 pm11 cd11 ct11 : Value}
    {f12 : Addr} {od12 an12 : Option Addr} {sl12 : Array (Option Value)} {oc12 kV12 dc12 pm12 cd12 ct12 : Value}
    {f13 : Addr} {od13 an13 : Option Addr} {sl13 : Array (Option Value)} {oc13 kV13 dc13 pm13 cd13 ct13 : Value}
    {c_StoreError : Addr} {nm_StoreError q_StoreError : Str} {N_StoreError : Addr} {bs_StoreError : List Value} {sn_StoreError : List Str} {sub_StoreError : List Value} {ab_StoreError : Bool} {col_StoreError : Option Bool} {dd_StoreError : Option Addr} {m0_StoreError m1_StoreError m2_StoreError m3_StoreError m5_StoreError : Option Value}
    {c_Refused : Addr} {nm_Refused q_Refused : Str} {N_Refused : Addr} {bs_Refused : List Value} {sn_Refused : List Str} {sub_Refused : List Value} {ab_Refused : Bool} {col_Refused : Option Bool} {dd_Refused : Option Addr} {m0_Refused m1_Refused m2_Refused m3_Refused m5_Refused : Option Value}
    {f_Refused : Addr} {of_Refused af_Refused : Option Addr} {sf_Refused : Array (Option Value)} {o1_Refused kf_Refused d1_Refused p1_Refused cdf_Refused ct_Refused : Value}
    (n_Queue : PySem.W.nsIn K mainGlobals "Queue" = some (some (.ref c_Queue))) (pg_Queue : PySem.W.plainGet K c_Queue Str.empty = true) (hd_Queue : PySem.W.hasDictIn K c_Queue = true) (po_Queue : PySem.W.plainOver K c_Queue = true) (sa_Queue : PySem.W.findIn K (.ref c_Queue) "__setattr__" = some (some (.builtin "object.__setattr__"))) (mk_Queue : PySem.W.makesIn K c_Queue = true) (kp_Queue : PySem.W.keepIn K (.ref c_Queue) = true) (nf0_Queue : PySem.W.findIn K (.ref c_Queue) "_heap" = some none)
    (a0 : PySem.W.findIn K (.ref c_Queue) "__init__" = some (some (.ref f0))) (i0 : PySem.W.isFn K (.ref f0) = true) (l0 : K.lookup f0 = some ⟨oc0, od0, .func (PySem.W.fnOf "__init__" "Queue.__init__" (defArgs s_Queue___init__) (defBody s_Queue___init__) (defScope s_Queue___init__) .none kV0 dc0 pm0 an0 cd0 ct0), sl0⟩) (c0 : PySem.W.codeIn K cd0 "Queue.__init__" = true) (k0 : PySem.W.keepIn K (.ref f0) = true)
    (a1 : PySem.W.findIn K (.ref c_Queue) "how_many" = some (some (.ref f1))) (i1 : PySem.W.isFn K (.ref f1) = true) (l1 : K.lookup f1 = some ⟨oc1, od1, .func (PySem.W.fnOf "how_many" "Queue.how_many" (defArgs s_Queue_how_many) (defBody s_Queue_how_many) (defScope s_Queue_how_many) .none kV1 dc1 pm1 an1 cd1 ct1), sl1⟩) (c1 : PySem.W.codeIn K cd1 "Queue.how_many" = true) (k1 : PySem.W.keepIn K (.ref f1) = true)
    (a2 : PySem.W.findIn K (.ref c_Queue) "put" = some (some (.ref f2))) (i2 : PySem.W.isFn K (.ref f2) = true) (l2 : K.lookup f2 = some ⟨oc2, od2, .func (PySem.W.fnOf "put" "Queue.put" (defArgs s_Queue_put) (defBody s_Queue_put) (defScope s_Queue_put) .none kV2 dc2 pm2 an2 cd2 ct2), sl2⟩) (c2 : PySem.W.codeIn K cd2 "Queue.put" = true) (k2 : PySem.W.keepIn K (.ref f2) = true)
    (a3 : PySem.W.findIn K (.ref c_Queue) "first" = some (some (.ref f3))) (i3 : PySem.W.isFn K (.ref f3) = true) (l3 : K.lookup f3 = some ⟨oc3, od3, .func (PySem.W.fnOf "first" "Queue.first" (defArgs s_Queue_first) (defBody s_Queue_first) (defScope s_Queue_first) .none kV3 dc3 pm3 an3 cd3 ct3), sl3⟩) (c3 : PySem.W.codeIn K cd3 "Queue.first" = true) (k3 : PySem.W.keepIn K (.ref f3) = true)
    (a4 : PySem.W.findIn K (.ref c_Queue) "take" = some (some (.ref f4))) (i4 : PySem.W.isFn K (.ref f4) = true) (l4 : K.lookup f4 = some ⟨oc4, od4, .func (PySem.W.fnOf "take" "Queue.take" (defArgs s_Queue_take) (defBody s_Queue_take) (defScope s_Queue_take) .none kV4 dc4 pm4 an4 cd4 ct4), sl4⟩) (c4 : PySem.W.codeIn K cd4 "Queue.take" = true) (k4 : PySem.W.keepIn K (.ref f4) = true)
    (a5 : PySem.W.findIn K (.ref c_Queue) "listed" = some (some (.ref f5))) (i5 : PySem.W.isFn K (.ref f5) = true) (l5 : K.lookup f5 = some ⟨oc5, od5, .func (PySem.W.fnOf "listed" "Queue.listed" (defArgs s_Queue_listed) (defBody s_Queue_listed) (defScope s_Queue_listed) .none kV5 dc5 pm5 an5 cd5 ct5), sl5⟩) (c5 : PySem.W.codeIn K cd5 "Queue.listed" = true) (k5 : PySem.W.keepIn K (.ref f5) = true)
    (a6 : PySem.W.findIn K (.ref c_Queue) "take_all" = some (some (.ref f6))) (i6 : PySem.W.isFn K (.ref f6) = true) (l6 : K.lookup f6 = some ⟨oc6, od6, .func (PySem.W.fnOf "take_all" "Queue.take_all" (defArgs s_Queue_take_all) (defBody s_Queue_take_all) (defScope s_Queue_take_all) .none kV6 dc6 pm6 an6 cd6 ct6), sl6⟩) (c6 : PySem.W.codeIn K cd6 "Queue.take_all" = true) (k6 : PySem.W.keepIn K (.ref f6) = true)
    (a7 : PySem.W.nsIn K mainGlobals "_law_heap" = some (some (.ref f7))) (l7 : K.lookup f7 = some ⟨oc7, od7, .func (PySem.W.fnOf "_law_heap" "_law_heap" (defArgs s__law_heap) (defBody s__law_heap) (defScope s__law_heap) .none kV7 dc7 pm7 an7 cd7 ct7), sl7⟩) (c7 : PySem.W.codeIn K cd7 "_law_heap" = true) (k7 : PySem.W.keepIn K (.ref f7) = true)
    (a8 : PySem.W.nsIn K mainGlobals "_law_draw" = some (some (.ref f8))) (l8 : K.lookup f8 = some ⟨oc8, od8, .func (PySem.W.fnOf "_law_draw" "_law_draw" (defArgs s__law_draw) (defBody s__law_draw) (defScope s__law_draw) .none kV8 dc8 pm8 an8 cd8 ct8), sl8⟩) (c8 : PySem.W.codeIn K cd8 "_law_draw" = true) (k8 : PySem.W.keepIn K (.ref f8) = true)
    (a9 : PySem.W.nsIn K mainGlobals "_law_pick" = some (some (.ref f9))) (l9 : K.lookup f9 = some ⟨oc9, od9, .func (PySem.W.fnOf "_law_pick" "_law_pick" (defArgs s__law_pick) (defBody s__law_pick) (defScope s__law_pick) .none kV9 dc9 pm9 an9 cd9 ct9), sl9⟩) (c9 : PySem.W.codeIn K cd9 "_law_pick" = true) (k9 : PySem.W.keepIn K (.ref f9) = true)
    (a10 : PySem.W.nsIn K mainGlobals "_law_entry" = some (some (.ref f10))) (l10 : K.lookup f10 = some ⟨oc10, od10, .func (PySem.W.fnOf "_law_entry" "_law_entry" (defArgs s__law_entry) (defBody s__law_entry) (defScope s__law_entry) .none kV10 dc10 pm10 an10 cd10 ct10), sl10⟩) (c10 : PySem.W.codeIn K cd10 "_law_entry" = true) (k10 : PySem.W.keepIn K (.ref f10) = true)
    (a11 : PySem.W.nsIn K mainGlobals "_law_least" = some (some (.ref f11))) (l11 : K.lookup f11 = some ⟨oc11, od11, .func (PySem.W.fnOf "_law_least" "_law_least" (defArgs s__law_least) (defBody s__law_least) (defScope s__law_least) .none kV11 dc11 pm11 an11 cd11 ct11), sl11⟩) (c11 : PySem.W.codeIn K cd11 "_law_least" = true) (k11 : PySem.W.keepIn K (.ref f11) = true)
    (a12 : PySem.W.nsIn K mainGlobals "_law_deed" = some (some (.ref f12))) (l12 : K.lookup f12 = some ⟨oc12, od12, .func (PySem.W.fnOf "_law_deed" "_law_deed" (defArgs s__law_deed) (defBody s__law_deed) (defScope s__law_deed) .none kV12 dc12 pm12 an12 cd12 ct12), sl12⟩) (c12 : PySem.W.codeIn K cd12 "_law_deed" = true) (k12 : PySem.W.keepIn K (.ref f12) = true)
    (a13 : PySem.W.nsIn K mainGlobals "law" = some (some (.ref f13))) (l13 : K.lookup f13 = some ⟨oc13, od13, .func (PySem.W.fnOf "law" "law" (defArgs s_law) (defBody s_law) (defScope s_law) .none kV13 dc13 pm13 an13 cd13 ct13), sl13⟩) (c13 : PySem.W.codeIn K cd13 "law" = true) (k13 : PySem.W.keepIn K (.ref f13) = true)
    (n_StoreError : PySem.W.nsIn K mainGlobals "StoreError" = some (some (.ref c_StoreError)))
    (x_StoreError : K.lookup c_StoreError = some (excClassObj nm_StoreError q_StoreError c_StoreError N_StoreError bs_StoreError [.type "ValueError", .type "Exception", .type "BaseException", .type "object"] true sn_StoreError sub_StoreError ab_StoreError col_StoreError dd_StoreError m0_StoreError m1_StoreError m2_StoreError m3_StoreError m5_StoreError "ValueError.__new__"))
    (sa_StoreError : PySem.W.findIn K (.ref c_StoreError) "__setattr__" = some (some (.builtin "object.__setattr__")))
    (ga_StoreError : PySem.W.findIn K (.ref c_StoreError) "__getattribute__" = some (some (.builtin "BaseException.__getattribute__")))
    (gg_StoreError : PySem.W.findIn K (.ref c_StoreError) "__getattr__" = some none)
    (kc_StoreError : PySem.W.keepIn K (.ref c_StoreError) = true)
    (ec_StoreError : PySem.W.subIn K (.ref c_StoreError) (.type "BaseException") = some true)
    (tc_StoreError : PySem.W.typeIn K (.ref c_StoreError) = some (.type "type"))
    (hd_StoreError : PySem.W.hasDictIn K c_StoreError = true)
    (ic_StoreError : PySem.W.isClsIn K c_StoreError = true)
    (ha_StoreError : PySem.W.findIn K (.ref c_StoreError) "__class__" = some (some (.builtin "object.__class__")))
    (hm_StoreError : PySem.W.mroIn K c_StoreError (.type "object") = some true)
    (nf0_StoreError : PySem.W.findIn K (.ref c_StoreError) "word" = some none)
    (n_Refused : PySem.W.nsIn K mainGlobals "Refused" = some (some (.ref c_Refused)))
    (x_Refused : K.lookup c_Refused = some (excClassObj nm_Refused q_Refused c_Refused N_Refused bs_Refused [.ref c_StoreError, .type "ValueError", .type "Exception", .type "BaseException", .type "object"] true sn_Refused sub_Refused ab_Refused col_Refused dd_Refused m0_Refused m1_Refused m2_Refused m3_Refused m5_Refused "ValueError.__new__"))
    (sa_Refused : PySem.W.findIn K (.ref c_Refused) "__setattr__" = some (some (.builtin "object.__setattr__")))
    (ga_Refused : PySem.W.findIn K (.ref c_Refused) "__getattribute__" = some (some (.builtin "BaseException.__getattribute__")))
    (gg_Refused : PySem.W.findIn K (.ref c_Refused) "__getattr__" = some none)
    (kc_Refused : PySem.W.keepIn K (.ref c_Refused) = true)
    (ec_Refused : PySem.W.subIn K (.ref c_Refused) (.type "BaseException") = some true)
    (tc_Refused : PySem.W.typeIn K (.ref c_Refused) = some (.type "type"))
    (hd_Refused : PySem.W.hasDictIn K c_Refused = true)
    (ic_Refused : PySem.W.isClsIn K c_Refused = true)
    (ha_Refused : PySem.W.findIn K (.ref c_Refused) "__class__" = some (some (.builtin "object.__class__")))
    (hm_Refused : PySem.W.mroIn K c_Refused (.type "object") = some true)
    (nf0_Refused : PySem.W.findIn K (.ref c_Refused) "word" = some none)
    (gi_Refused : PySem.W.findIn K (.ref c_Refused) "__init__" = some (some (.ref f_Refused)))
    (ti_Refused : PySem.W.typeIn K (.ref f_Refused) = some (.type "function"))
    (li_Refused : K.lookup f_Refused = some ⟨o1_Refused, of_Refused, .func (PySem.W.fnOf "__init__" "Refused.__init__" (defArgs i_Refused) (defBody i_Refused) (defScope i_Refused) .none kf_Refused d1_Refused p1_Refused af_Refused cdf_Refused ct_Refused), sf_Refused⟩)
    (cc_Refused : PySem.W.codeIn K cdf_Refused "Refused.__init__" = true)
    (ki_Refused : PySem.W.keepIn K (.ref f_Refused) = true)
    (su_Refused_StoreError : PySem.W.subIn K (.ref c_StoreError) (.ref c_Refused) = some false)
    (su_StoreError_StoreError : PySem.W.subIn K (.ref c_StoreError) (.ref c_StoreError) = some true)
    (su_Refused_Refused : PySem.W.subIn K (.ref c_Refused) (.ref c_Refused) = some true)
    (su_StoreError_Refused : PySem.W.subIn K (.ref c_Refused) (.ref c_StoreError) = some true)
    (hnO : PySem.W.specialIn K (.builtin "object.__class__") "__get__" = some (some (.builtin "getset_descriptor.__get__"))) (htO : PySem.W.takesIn K (.builtin "object.__class__") = some true)
    (z_abs : PySem.W.nsIn K mainGlobals "abs" = some none)
    (z_bool : PySem.W.nsIn K mainGlobals "bool" = some none)
    (m_heapify : PySem.W.nsIn K mainGlobals "heapify" = some (some (.builtin "_heapq.heapify")))
    (m_heappop : PySem.W.nsIn K mainGlobals "heappop" = some (some (.builtin "_heapq.heappop")))
    (m_heappush : PySem.W.nsIn K mainGlobals "heappush" = some (some (.builtin "_heapq.heappush")))
    (z_int : PySem.W.nsIn K mainGlobals "int" = some none)
    (z_isinstance : PySem.W.nsIn K mainGlobals "isinstance" = some none)
    (z_len : PySem.W.nsIn K mainGlobals "len" = some none)
    (z_list : PySem.W.nsIn K mainGlobals "list" = some none)
    (z_range : PySem.W.nsIn K mainGlobals "range" = some none)
    (z_sorted : PySem.W.nsIn K mainGlobals "sorted" = some none)
    (z_tuple : PySem.W.nsIn K mainGlobals "tuple" = some none)
    :
    ∃ fd : FuncData, (∀ (s : Shared) (v : Value), BindsTo s fd ⟨[v], []⟩ [("script", v)]) ∧ ∀ base : Heap, K.In base → base.Ns mainGlobals mg → FnG l.prog w K mg base 6 fa fd ["script"] (lift K F_law) := by
  have e := hfa.symm.trans (PySem.W.mg_of X G a13)
  cases e
  have T_ef : ∀ y C, ClsAt K y C → y ∈ errNames → ErrF K C := cls_all fun x hx => by
      simp only [errNames, List.mem_cons, List.not_mem_nil, or_false] at hx
      rcases hx with rfl | rfl
      · exact ⟨c_StoreError, n_StoreError, ⟨ga_StoreError, gg_StoreError, ec_StoreError, hd_StoreError⟩, ic_StoreError, ha_StoreError, hnO, htO, hm_StoreError⟩
      · exact ⟨c_Refused, n_Refused, ⟨ga_Refused, gg_Refused, ec_Refused, hd_Refused⟩, ic_Refused, ha_Refused, hnO, htO, hm_Refused⟩
  have T_nf0 : ∀ y C, ClsAt K y C → y ∈ errNames → PySem.W.findIn K (.ref C) "word" = some none := cls_all fun x hx => by
      simp only [errNames, List.mem_cons, List.not_mem_nil, or_false] at hx
      rcases hx with rfl | rfl
      · exact ⟨c_StoreError, n_StoreError, nf0_StoreError⟩
      · exact ⟨c_Refused, n_Refused, nf0_Refused⟩
  have T_hit_Refused : ∃ c : Addr, mg "Refused" = some (.ref c) ∧ Hits K (.ref c) tab_Refused := ⟨c_Refused, PySem.W.mg_of X G n_Refused, hits_of (L := L_Refused) fun p hx => by
      simp only [L_Refused, List.mem_cons, List.not_mem_nil, or_false] at hx
      rcases hx with rfl | rfl
      · exact ⟨c_StoreError, n_StoreError, PySem.W.exm_ref ec_Refused hd_Refused tc_Refused su_Refused_StoreError⟩
      · exact ⟨c_Refused, n_Refused, PySem.W.exm_ref ec_Refused hd_Refused tc_Refused su_Refused_Refused⟩⟩
  have T_hit_StoreError : ∃ c : Addr, mg "StoreError" = some (.ref c) ∧ Hits K (.ref c) tab_StoreError := ⟨c_StoreError, PySem.W.mg_of X G n_StoreError, hits_of (L := L_StoreError) fun p hx => by
      simp only [L_StoreError, List.mem_cons, List.not_mem_nil, or_false] at hx
      rcases hx with rfl | rfl
      · exact ⟨c_StoreError, n_StoreError, PySem.W.exm_ref ec_StoreError hd_StoreError tc_StoreError su_StoreError_StoreError⟩
      · exact ⟨c_Refused, n_Refused, PySem.W.exm_ref ec_StoreError hd_StoreError tc_StoreError su_StoreError_Refused⟩⟩
  have T : Txt K mg (0 : Addr) := ⟨PySem.W.mg_none_of X G z_abs, PySem.W.mg_none_of X G z_bool, PySem.W.mg_of X G m_heapify, PySem.W.mg_of X G m_heappop, PySem.W.mg_of X G m_heappush, PySem.W.mg_none_of X G z_int, PySem.W.mg_none_of X G z_isinstance, PySem.W.mg_none_of X G z_len, PySem.W.mg_none_of X G z_list, PySem.W.mg_none_of X G z_range, PySem.W.mg_none_of X G z_sorted, PySem.W.mg_none_of X G z_tuple, T_ef, T_nf0, T_hit_Refused, T_hit_StoreError, ⟨c_Queue, n_Queue, ⟨pg_Queue, hd_Queue, po_Queue, sa_Queue⟩, (fun f hf => by
      simp only [List.mem_cons, List.not_mem_nil, or_false] at hf
      rcases hf with rfl
      · exact nf0_Queue)⟩⟩
  have F_Refused := fun_mk (st := i_Refused) li_Refused cc_Refused ki_Refused
  refine ⟨PySem.W.fnOf "law" "law" (defArgs s_law) (defBody s_law) (defScope s_law) .none kV13 dc13 pm13 an13 cd13 ct13, fun s v => .of_eq rfl, fun base KB NB => ?_⟩
  have h_Refused : Err l.prog w K mg base 1 "Refused" ["self", "word"] ["word"] := ⟨c_Refused, f_Refused, _, n_Refused, PySem.W.mg_of X G n_Refused, ⟨⟨nm_Refused, q_Refused, N_Refused, bs_Refused, _, sn_Refused, sub_Refused, ab_Refused, col_Refused, dd_Refused, m0_Refused, m1_Refused, m2_Refused, m3_Refused, m5_Refused, x_Refused, by rfl⟩, sa_Refused, ec_Refused, tc_Refused, kc_Refused⟩, ⟨ga_Refused, gg_Refused, ec_Refused, hd_Refused⟩, gi_Refused, ti_Refused, (fun f hf => by
      simp only [List.mem_cons, List.not_mem_nil, or_false] at hf
      rcases hf with rfl
      · exact nf0_Refused), ini_Refused F_Refused, F_Refused.binds fun _ _ _ _ _ _ us hl => match us, hl with | [_, _], _ => rfl⟩
  have h_Queue___init__ : HasC l.prog w K mg base 1 "Queue" "Queue.__init__" s_Queue___init__ ["self", "entries"] F_Queue___init__ := HasC.mk' n_Queue (PySem.W.mg_of X G n_Queue) ⟨mk_Queue, a0, i0, kp_Queue⟩ (fun_mk (st := s_Queue___init__) l0 c0 k0) (ok_Queue___init__ (P := l.prog) (w := w) (base := base) (fun_mk (st := s_Queue___init__) l0 c0 k0) T len_Queue___init__ wp_Queue___init__) fun _ _ _ _ _ _ us hl => match us, hl with | [_, _], _ => rfl
  have h_Queue_how_many : HasM l.prog w K mg base 1 "Queue" "how_many" "Queue.how_many" s_Queue_how_many ["self"] F_Queue_how_many := HasM.mk' n_Queue ⟨pg_Queue, hd_Queue, po_Queue, sa_Queue⟩ ⟨a1, i1, k1⟩ (fun_mk (st := s_Queue_how_many) l1 c1 k1) (ok_Queue_how_many (P := l.prog) (w := w) (base := base) (fun_mk (st := s_Queue_how_many) l1 c1 k1) T len_Queue_how_many wp_Queue_how_many) fun _ _ _ _ _ _ us hl => match us, hl with | [_], _ => rfl
  have h_Queue_put : HasM l.prog w K mg base 1 "Queue" "put" "Queue.put" s_Queue_put ["self", "entry"] F_Queue_put := HasM.mk' n_Queue ⟨pg_Queue, hd_Queue, po_Queue, sa_Queue⟩ ⟨a2, i2, k2⟩ (fun_mk (st := s_Queue_put) l2 c2 k2) (ok_Queue_put (P := l.prog) (w := w) (base := base) (fun_mk (st := s_Queue_put) l2 c2 k2) T len_Queue_put wp_Queue_put) fun _ _ _ _ _ _ us hl => match us, hl with | [_, _], _ => rfl
  have h_Queue_listed : HasM l.prog w K mg base 1 "Queue" "listed" "Queue.listed" s_Queue_listed ["self"] F_Queue_listed := HasM.mk' n_Queue ⟨pg_Queue, hd_Queue, po_Queue, sa_Queue⟩ ⟨a5, i5, k5⟩ (fun_mk (st := s_Queue_listed) l5 c5 k5) (ok_Queue_listed (P := l.prog) (w := w) (base := base) (fun_mk (st := s_Queue_listed) l5 c5 k5) T len_Queue_listed wp_Queue_listed) fun _ _ _ _ _ _ us hl => match us, hl with | [_], _ => rfl
  have h__law_heap : Has l.prog w K mg base 1 "_law_heap" s__law_heap ["script"] F__law_heap := Has.mk' (fun_mk (st := s__law_heap) l7 c7 k7) (PySem.W.mg_of X G a7) (ok__law_heap (P := l.prog) (w := w) (base := base) (fun_mk (st := s__law_heap) l7 c7 k7) T len__law_heap wp__law_heap) fun _ _ _ _ _ _ us hl => match us, hl with | [_], _ => rfl
  have h__law_draw : Has l.prog w K mg base 1 "_law_draw" s__law_draw ["heap", "many"] F__law_draw := Has.mk' (fun_mk (st := s__law_draw) l8 c8 k8) (PySem.W.mg_of X G a8) (ok__law_draw (P := l.prog) (w := w) (base := base) (fun_mk (st := s__law_draw) l8 c8 k8) T) fun _ _ _ _ _ _ us hl => match us, hl with | [_, _], _ => rfl
  have h_Queue_take_all : HasM l.prog w K mg base 2 "Queue" "take_all" "Queue.take_all" s_Queue_take_all ["self"] F_Queue_take_all := HasM.mk' n_Queue ⟨pg_Queue, hd_Queue, po_Queue, sa_Queue⟩ ⟨a6, i6, k6⟩ (fun_mk (st := s_Queue_take_all) l6 c6 k6) (ok_Queue_take_all (P := l.prog) (w := w) (base := base) (fun_mk (st := s_Queue_take_all) l6 c6 k6) T h_Queue_listed len_Queue_take_all wp_Queue_take_all) fun _ _ _ _ _ _ us hl => match us, hl with | [_], _ => rfl
  have h__law_pick : Has l.prog w K mg base 2 "_law_pick" s__law_pick ["heap", "some"] F__law_pick := Has.mk' (fun_mk (st := s__law_pick) l9 c9 k9) (PySem.W.mg_of X G a9) (ok__law_pick (P := l.prog) (w := w) (base := base) (fun_mk (st := s__law_pick) l9 c9 k9) T h__law_draw len__law_pick wp__law_pick) fun _ _ _ _ _ _ us hl => match us, hl with | [_, _], _ => rfl
  have h_Queue_first : HasM l.prog w K mg base 3 "Queue" "first" "Queue.first" s_Queue_first ["self"] F_Queue_first := HasM.mk' n_Queue ⟨pg_Queue, hd_Queue, po_Queue, sa_Queue⟩ ⟨a3, i3, k3⟩ (fun_mk (st := s_Queue_first) l3 c3 k3) (ok_Queue_first (P := l.prog) (w := w) (base := base) (fun_mk (st := s_Queue_first) l3 c3 k3) T h_Refused len_Queue_first wp_Queue_first) fun _ _ _ _ _ _ us hl => match us, hl with | [_], _ => rfl
  have h_Queue_take : HasM l.prog w K mg base 3 "Queue" "take" "Queue.take" s_Queue_take ["self"] F_Queue_take := HasM.mk' n_Queue ⟨pg_Queue, hd_Queue, po_Queue, sa_Queue⟩ ⟨a4, i4, k4⟩ (fun_mk (st := s_Queue_take) l4 c4 k4) (ok_Queue_take (P := l.prog) (w := w) (base := base) (fun_mk (st := s_Queue_take) l4 c4 k4) T h_Refused len_Queue_take wp_Queue_take) fun _ _ _ _ _ _ us hl => match us, hl with | [_], _ => rfl
  have h__law_entry : Has l.prog w K mg base 3 "_law_entry" s__law_entry ["heap"] F__law_entry := Has.mk' (fun_mk (st := s__law_entry) l10 c10 k10) (PySem.W.mg_of X G a10) (ok__law_entry (P := l.prog) (w := w) (base := base) (fun_mk (st := s__law_entry) l10 c10 k10) T h__law_draw h__law_pick len__law_entry wp__law_entry) fun _ _ _ _ _ _ us hl => match us, hl with | [_], _ => rfl
  have h__law_least : Has l.prog w K mg base 4 "_law_least" s__law_least ["queue", "is_taken"] F__law_least := Has.mk' (fun_mk (st := s__law_least) l11 c11 k11) (PySem.W.mg_of X G a11) (ok__law_least (P := l.prog) (w := w) (base := base) (fun_mk (st := s__law_least) l11 c11 k11) T h_Queue_first h_Queue_take len__law_least wp__law_least) fun _ _ _ _ _ _ us hl => match us, hl with | [_, _], _ => rfl
  have h__law_deed : Has l.prog w K mg base 5 "_law_deed" s__law_deed ["heap", "queue", "due"] F__law_deed := Has.mk' (fun_mk (st := s__law_deed) l12 c12 k12) (PySem.W.mg_of X G a12) (ok__law_deed (P := l.prog) (w := w) (base := base) (fun_mk (st := s__law_deed) l12 c12 k12) T h_Queue_how_many h_Queue_put h_Queue_listed h_Queue_take_all h__law_draw h__law_entry h__law_least len__law_deed wp__law_deed) fun _ _ _ _ _ _ us hl => match us, hl with | [_, _, _], _ => rfl
  exact ok_law (P := l.prog) (w := w) (base := base) (fun_mk (st := s_law) l13 c13 k13) T h_Queue___init__ h_Queue_how_many h_Queue_put h_Queue_listed h_Queue_take_all h__law_heap h__law_draw h__law_entry h__law_least h__law_deed len_law wp_law
theorem at_end {K : PySem.W.Frag} {H : Hp} {a : Addr} {ns : List Int} (hl : ns.length ≤ 63) (hS : SqL K H a (ns.map V.int)) : lift K F_law [.ref a] H (fun v _ => v = .bl true) fun _ _ _ => False := by
  have fe : fz (fun _ => none) H (fun _ => none) = H := by
    funext b
    exact fz_none rfl rfl
  refine ⟨fun _ => none, [.lst (ns.map .int)], fun _ => none, fun d _ => d = .bl true, fun _ _ _ => False, ⟨(fun _ _ e => nomatch e), (fun _ _ e => nomatch e)⟩, ?_, ⟨ns, rfl, hl, fun _ => rfl⟩, fun v d H' M' _ r e => ?_, fun _ _ _ _ _ _ _ _ _ _ _ _ z => z⟩
  · rw [fe]
    exact .cons (.lst hS (.ofInts ns)) .nil
  · subst e
    cases r
    rfl
end K31
open PySem PySem.W PyProof.Rows in
set_option maxRecDepth 100000 in
set_option maxHeartbeats 0 in
theorem PySem.Challenge.cw_nonearer_k31_whole_queues_holds : PySem.Challenge.rw_nonearer_k31_whole_queues.Holds := by
  w_on; o_law; k_head; (case hw => w_witness2)
  k_fill
  refine L3.walk_g (l := PySem.Challenge.rw_nonearer_k31_whole_queues) (n := 63) (k := 6) (x := "script") (sp := fun w => L3.lift _ K31.F_law) rfl (by decide) rfl ⟨rfl, by decide, by decide⟩ (fun w h Y => PySem.W.kIn_of Y) ?F (fun w H a ns hl hS => K31.at_end hl hS)
  case F =>
    intro w mg fa h KX G hmg
    refine' K31.all_mk rfl KX G hmg ?n_Queue ?pg_Queue ?hd_Queue ?po_Queue ?sa_Queue ?mk_Queue ?kp_Queue ?nf0_Queue ?a0 ?i0 ?l0 ?c0 ?k0 ?a1 ?i1 ?l1 ?c1 ?k1 ?a2 ?i2 ?l2 ?c2 ?k2 ?a3 ?i3 ?l3 ?c3 ?k3 ?a4 ?i4 ?l4 ?c4 ?k4 ?a5 ?i5 ?l5 ?c5 ?k5 ?a6 ?i6 ?l6 ?c6 ?k6 ?a7 ?l7 ?c7 ?k7 ?a8 ?l8 ?c8 ?k8 ?a9 ?l9 ?c9 ?k9 ?a10 ?l10 ?c10 ?k10 ?a11 ?l11 ?c11 ?k11 ?a12 ?l12 ?c12 ?k12 ?a13 ?l13 ?c13 ?k13 ?n_StoreError ?x_StoreError ?sa_StoreError ?ga_StoreError ?gg_StoreError ?kc_StoreError ?ec_StoreError ?tc_StoreError ?hd_StoreError ?ic_StoreError ?ha_StoreError ?hm_StoreError ?nf0_StoreError ?n_Refused ?x_Refused ?sa_Refused ?ga_Refused ?gg_Refused ?kc_Refused ?ec_Refused ?tc_Refused ?hd_Refused ?ic_Refused ?ha_Refused ?hm_Refused ?nf0_Refused ?gi_Refused ?ti_Refused ?li_Refused ?cc_Refused ?ki_Refused ?su_Refused_StoreError ?su_StoreError_StoreError ?su_Refused_Refused ?su_StoreError_Refused ?hnO ?htO ?z_abs ?z_bool ?m_heapify ?m_heappop ?m_heappush ?z_int ?z_isinstance ?z_len ?z_list ?z_range ?z_sorted ?z_tuple
    (case n_Queue => k_is)
    (case pg_Queue => k_is)
    (case hd_Queue => k_is)
    (case po_Queue => k_is)
    (case sa_Queue => k_is)
    (case mk_Queue => k_is)
    (case kp_Queue => k_is)
    (case nf0_Queue => k_is)
    (case a0 => k_is)
    (case i0 => k_is)
    (case l0 => k_is)
    (case c0 => k_is)
    (case k0 => k_is)
    (case a1 => k_is)
    (case i1 => k_is)
    (case l1 => k_is)
    (case c1 => k_is)
    (case k1 => k_is)
    (case a2 => k_is)
    (case i2 => k_is)
    (case l2 => k_is)
    (case c2 => k_is)
    (case k2 => k_is)
    (case a3 => k_is)
    (case i3 => k_is)
    (case l3 => k_is)
    (case c3 => k_is)
    (case k3 => k_is)
    (case a4 => k_is)
    (case i4 => k_is)
    (case l4 => k_is)
    (case c4 => k_is)
    (case k4 => k_is)
    (case a5 => k_is)
    (case i5 => k_is)
    (case l5 => k_is)
    (case c5 => k_is)
    (case k5 => k_is)
    (case a6 => k_is)
    (case i6 => k_is)
    (case l6 => k_is)
    (case c6 => k_is)
    (case k6 => k_is)
    (case a7 => k_is)
    (case l7 => k_is)
    (case c7 => k_is)
    (case k7 => k_is)
    (case a8 => k_is)
    (case l8 => k_is)
    (case c8 => k_is)
    (case k8 => k_is)
    (case a9 => k_is)
    (case l9 => k_is)
    (case c9 => k_is)
    (case k9 => k_is)
    (case a10 => k_is)
    (case l10 => k_is)
    (case c10 => k_is)
    (case k10 => k_is)
    (case a11 => k_is)
    (case l11 => k_is)
    (case c11 => k_is)
    (case k11 => k_is)
    (case a12 => k_is)
    (case l12 => k_is)
    (case c12 => k_is)
    (case k12 => k_is)
    (case a13 => k_is)
    (case l13 => k_is)
    (case c13 => k_is)
    (case k13 => k_is)
    (case n_StoreError => k_is)
    (case x_StoreError => k_is)
    (case sa_StoreError => k_is)
    (case ga_StoreError => k_is)
    (case gg_StoreError => k_is)
    (case kc_StoreError => k_is)
    (case ec_StoreError => k_is)
    (case tc_StoreError => k_is)
    (case hd_StoreError => k_is)
    (case ic_StoreError => k_is)
    (case ha_StoreError => k_is)
    (case hm_StoreError => k_is)
    (case nf0_StoreError => k_is)
    (case n_Refused => k_is)
    (case x_Refused => k_is)
    (case sa_Refused => k_is)
    (case ga_Refused => k_is)
    (case gg_Refused => k_is)
    (case kc_Refused => k_is)
    (case ec_Refused => k_is)
    (case tc_Refused => k_is)
    (case hd_Refused => k_is)
    (case ic_Refused => k_is)
    (case ha_Refused => k_is)
    (case hm_Refused => k_is)
    (case nf0_Refused => k_is)
    (case gi_Refused => k_is)
    (case ti_Refused => k_is)
    (case li_Refused => k_is)
    (case cc_Refused => k_is)
    (case ki_Refused => k_is)
    (case su_Refused_StoreError => k_is)
    (case su_StoreError_StoreError => k_is)
    (case su_Refused_Refused => k_is)
    (case su_StoreError_Refused => k_is)
    (case hnO => k_is)
    (case htO => k_is)
    (case z_abs => k_is)
    (case z_bool => k_is)
    (case m_heapify => k_is)
    (case m_heappop => k_is)
    (case m_heappush => k_is)
    (case z_int => k_is)
    (case z_isinstance => k_is)
    (case z_len => k_is)
    (case z_list => k_is)
    (case z_range => k_is)
    (case z_sorted => k_is)
    (case z_tuple => k_is)
#print axioms PySem.Challenge.cw_nonearer_k31_whole_queues_holds
