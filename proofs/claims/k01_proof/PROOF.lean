import PyProof.Rows.All
import Wide.All
import OpenK.AllK
import Wide.FinOn
import HandS.ForMost
import HandS.ForExc
import HandS.Wide
import HandS.Zip
import HandS.Defaults
import HandS.TupAny
import HandS.Conv
import HandS.Style
import HandS.FStr
import HandS.Lambda
import HandS.EndTab
import HandS.ExcInit
import PyProof.Rows.NestShow
import HandS.Gcd
import HandS.SortKw
import HandS.TupMul
import HandS.IsInst
import KE.DataMinMax
import KE.GoesEnum
import HandS.Flt
import HandS.Star
import HandS.ExcField
import HandS.TryOnly
import HandS.TryMany
import KE.KExcIs
import HandS.ExcIs
import KE.SortData
import PyProof.EnumMake
import HandS.Iter
import HandS.Remove
import KE.KIndexOf
import HandS.DictComp
import HandS.ListItems
import HandS.SetKeys
import HandS.Deep
import HandS.StrMore
import PyProof.FactsAll.dict
import KE.KEqDict
import HandS.MakeKw
import KE.DataCmp
import HandS.MakeKwOnly
import KE.DataMinKey
import HandS.Comp
import HandS.Strs
import HandS.SetFor
import HandS.More
import PyProof.FactsAll.list_3
import KE.KSortTup
import HandS.List
import KE.DataEq
import HandS.Text
import HandS.OwnEq
import KE.RegKIsAll
import PySem.Challenge.RW_nonearer_k01_vectors_told_and_refused
set_option Elab.async false
set_option maxHeartbeats 0
set_option linter.all false
set_option maxRecDepth 100000
set_option exponentiation.threshold 20000
/-! A second layer over HandS: data by value (D), mutable objects as tokens in a store (Mp), readings as predicate transformers over data. -/
namespace L3
open PySem L2
/-! ### data -/
inductive D where
  | non | bl (b : Bool) | int (i : Int) | str (x : Str) | ty (n : String) | tok (a : Addr)
  | tup (ds : List D) | lst (ds : List D)
  /-- an exception at a: its class's name, its dict at dx, its fields -/
  | exc (a : Addr) (x : Str) (dx : Addr) (ns : List Str) (ds : List D)
  /-- a tuple that is known to bear no dict -/
  | tpl (ds : List D)
  /-- a dict that never changes -/
  | dct (ks : List Key) (ds : List D)
mutual
inductive Rep (K : PySem.W.Frag) (H : Hp) : V → D → Prop
  | non : Rep K H .non .non
  | bl (b : Bool) : Rep K H (.bl b) (.bl b)
  | int (i : Int) : Rep K H (.int i) (.int i)
  | str (x : Str) : Rep K H (.str x) (.str x)
  | ty (n : String) : Rep K H (.ty n) (.ty n)
  | tok (a : Addr) : Rep K H (.ref a) (.tok a)
  | tup {a : Addr} {vs : List V} {ds : List D} : SqT K H a vs → RepL K H vs ds → Rep K H (.ref a) (.tup ds)
  | lst {a : Addr} {vs : List V} {ds : List D} : SqL K H a vs → RepL K H vs ds → Rep K H (.ref a) (.lst ds)
  | exc {a dx : Addr} {x : Str} {ns : List Str} {vs : List V} {ds : List D} : H dx = some (.xd (ns.zip vs)) → ns.length = vs.length → RepL K H vs ds → Rep K H (.ref a) (.exc a x dx ns ds)
  | tpl {a : Addr} {o : Obj} {vs : List V} {ds : List D} : H a = some (.frz o (.tup vs)) → o.dict = none → RepL K H vs ds → Rep K H (.ref a) (.tpl ds)
  | dct {a : Addr} {ks : List Key} {vs : List V} {ds : List D} : Rd H a (.dK (ks.zip vs)) → ks.length = vs.length → RepL K H vs ds → Rep K H (.ref a) (.dct ks ds)
inductive RepL (K : PySem.W.Frag) (H : Hp) : List V → List D → Prop
  | nil : RepL K H [] []
  | cons {v : V} {vs : List V} {d : D} {ds : List D} : Rep K H v d → RepL K H vs ds → RepL K H (v :: vs) (d :: ds)
end
theorem rd_mono {H H' : Hp} {a : Addr} {u : HO} (e : Same H H') (h : Rd H a u) : Rd H' a u := by
  rcases h with h | ⟨o, h⟩
  · exact .inl (e _ _ h)
  · exact .inr ⟨o, e _ _ h⟩
theorem sqt_mono {K : PySem.W.Frag} {H H' : Hp} {a : Addr} {xs : List V} (e : Same H H') (h : SqT K H a xs) : SqT K H' a xs := by
  rcases h with (h | ⟨o, h⟩) | h
  · exact .inl (.inl (e _ _ h))
  · exact .inl (.inr ⟨o, e _ _ h⟩)
  · exact .inr h
mutual
theorem Rep.mono {K : PySem.W.Frag} {H H' : Hp} (e : Same H H') : ∀ (d : D) (v : V), Rep K H v d → Rep K H' v d
  | .non, _, h => by cases h; exact .non
  | .bl b, _, h => by cases h; exact .bl b
  | .int i, _, h => by cases h; exact .int i
  | .str x, _, h => by cases h; exact .str x
  | .ty n, _, h => by cases h; exact .ty n
  | .tok a, _, h => by cases h; exact .tok a
  | .tup ds, _, h => by
    cases h with
    | tup hs ha => exact .tup (sqt_mono e hs) (RepL.mono e ds _ ha)
  | .lst ds, _, h => by
    cases h with
    | lst hs ha => exact .lst (e.seq hs) (RepL.mono e ds _ ha)
  | .exc a x dx ns ds, _, h => by
    cases h with
    | exc hx hl ha => exact .exc (e _ _ hx) hl (RepL.mono e ds _ ha)
  | .tpl ds, _, h => by
    cases h with
    | tpl hx hl ha => exact .tpl (e _ _ hx) hl (RepL.mono e ds _ ha)
  | .dct ks ds, _, h => by
    cases h with
    | dct hx hl ha => exact .dct (rd_mono e hx) hl (RepL.mono e ds _ ha)
theorem RepL.mono {K : PySem.W.Frag} {H H' : Hp} (e : Same H H') : ∀ (ds : List D) (vs : List V), RepL K H vs ds → RepL K H' vs ds
  | [], _, h => by cases h; exact .nil
  | d :: ds, _, h => by
    cases h with
    | cons h1 h2 => exact .cons (Rep.mono e d _ h1) (RepL.mono e ds _ h2)
end
theorem Rep.up {K : PySem.W.Frag} {H H' : Hp} {v : V} {d : D} (h : Rep K H v d) (e : Same H H') : Rep K H' v d := Rep.mono e d v h
theorem RepL.up {K : PySem.W.Frag} {H H' : Hp} {v : List V} {d : List D} (h : RepL K H v d) (e : Same H H') : RepL K H' v d := RepL.mono e d v h
theorem RepL.len {K : PySem.W.Frag} {H : Hp} : ∀ {vs : List V} {ds : List D}, RepL K H vs ds → vs.length = ds.length
  | _, _, .nil => rfl
  | _, _, .cons _ r => by rw [List.length_cons, List.length_cons, r.len]
theorem RepL.app {K : PySem.W.Frag} {H : Hp} : ∀ {vs ws : List V} {ds es : List D}, RepL K H vs ds → RepL K H ws es → RepL K H (vs ++ ws) (ds ++ es)
  | _, _, _, _, .nil, s => s
  | _, _, _, _, .cons r t, s => .cons r (RepL.app t s)
theorem RepL.get {K : PySem.W.Frag} {H : Hp} : ∀ {vs : List V} {ds : List D} {i : Nat} {d : D}, RepL K H vs ds → ds[i]? = some d → ∃ v, vs[i]? = some v ∧ Rep K H v d
  | _, _, i, d, .nil, e => by simp at e
  | _, _, 0, d, .cons r t, e => by
    obtain rfl : _ = d := Option.some.inj e
    exact ⟨_, rfl, r⟩
  | _, _, i + 1, d, .cons r t, e => t.get (i := i) e
theorem RepL.set {K : PySem.W.Frag} {H : Hp} {v : V} {d : D} (r : Rep K H v d) : ∀ {vs : List V} {ds : List D} (i : Nat), RepL K H vs ds → RepL K H (vs.set i v) (ds.set i d)
  | _, _, _, .nil => .nil
  | _, _, 0, .cons _ t => .cons r t
  | _, _, i + 1, .cons q t => .cons q (RepL.set r i t)
theorem RepL.take {K : PySem.W.Frag} {H : Hp} : ∀ {vs : List V} {ds : List D} (n : Nat), RepL K H vs ds → RepL K H (vs.take n) (ds.take n)
  | _, _, 0, _ => .nil
  | _, _, n + 1, .nil => .nil
  | _, _, n + 1, .cons r t => .cons r (RepL.take n t)
theorem RepL.drop {K : PySem.W.Frag} {H : Hp} : ∀ {vs : List V} {ds : List D} (n : Nat), RepL K H vs ds → RepL K H (vs.drop n) (ds.drop n)
  | _, _, 0, r => r
  | _, _, n + 1, .nil => .nil
  | _, _, n + 1, .cons _ t => RepL.drop n t
theorem RepL.ints {K : PySem.W.Frag} {H : Hp} : ∀ {vs : List V} {ns : List Int}, RepL K H vs (ns.map D.int) → vs = ns.map V.int
  | _, [], h => by cases h; rfl
  | _, n :: ns, h => by
    cases h with
    | cons r t =>
      cases r
      rw [List.map_cons, RepL.ints t]
theorem RepL.ofInts {K : PySem.W.Frag} {H : Hp} : ∀ (ns : List Int), RepL K H (ns.map V.int) (ns.map D.int)
  | [] => .nil
  | n :: ns => .cons (.int n) (RepL.ofInts ns)
theorem RepL.bls {K : PySem.W.Frag} {H : Hp} : ∀ {vs : List V} {ns : List Bool}, RepL K H vs (ns.map D.bl) → vs = ns.map V.bl
  | _, [], h => by cases h; rfl
  | _, n :: ns, h => by
    cases h with
    | cons r t =>
      cases r
      rw [List.map_cons, RepL.bls t]
/-! ### the store of what may change -/
/-- the class that a name of the module holds -/
def ClsAt (K : PySem.W.Frag) (x : Str) (C : Addr) : Prop := PySem.W.nsIn K mainGlobals x = some (some (.ref C))
inductive Cell where
  | aux | drw (a0 : Addr) | lst (ds : List D) | ins (x : Str) (fs : List (Str × D))
  /-- a dict, while a loop walks it with its object -/
  | dic (lk : Option (Obj × List (Key × V))) (kd : List (Key × D))
  /-- the table of the code objects that the def x makes: each bears the name q -/
  | tab (x q : Str)
  /-- a box of draws: three whole numbers -/
  | box
  /-- an exception that is a value: its class's name, its fields -/
  | err (x : Str) (fs : List (Str × D))
abbrev Mp := Addr → Option Cell
/-- what never changes: neither in the store nor hidden (Z) -/
def fz (Z H : Hp) (M : Mp) : Hp := fun a => match M a, Z a with
  | none, none => H a
  | _, _ => none
def setM (M : Mp) (a : Addr) (c : Cell) : Mp := fun b => if b = a then some c else M b
theorem setM_same {M : Mp} {a : Addr} {c : Cell} : setM M a c a = some c := if_pos rfl
theorem setM_ne {M : Mp} {a b : Addr} {c : Cell} (h : b ≠ a) : setM M a c b = M b := if_neg h
theorem fz_none {Z H : Hp} {M : Mp} {a : Addr} (h : M a = none) (z : Z a = none) : fz Z H M a = H a := by
  unfold fz
  rw [h, z]
theorem fz_some {Z H : Hp} {M : Mp} {a : Addr} {c : Cell} (h : M a = some c) : fz Z H M a = none := by
  unfold fz
  rw [h]
theorem fz_hid {Z H : Hp} {M : Mp} {a : Addr} {o : HO} (h : Z a = some o) : fz Z H M a = none := by
  unfold fz
  rw [h]
  split <;> first | rfl | contradiction
theorem fz_is {Z H : Hp} {M : Mp} {a : Addr} {o : HO} (h : fz Z H M a = some o) : M a = none ∧ Z a = none ∧ H a = some o := by
  cases q : M a with
  | some c =>
    rw [fz_some q] at h
    cases h
  | none =>
    cases q2 : Z a with
    | some u =>
      rw [fz_hid q2] at h
      cases h
    | none =>
      rw [fz_none q q2] at h
      exact ⟨rfl, rfl, h⟩
theorem fz_to {Z H : Hp} {M : Mp} {a : Addr} {o : HO} (h1 : M a = none) (h2 : Z a = none) (h : H a = some o) : fz Z H M a = some o := by
  rw [fz_none h1 h2]
  exact h
theorem fz_sub {Z H : Hp} {M : Mp} : Same (fz Z H M) H := fun _ _ e => (fz_is e).2.2
def RepF (K : PySem.W.Frag) (H : Hp) (fv : List (Str × V)) (fs : List (Str × D)) : Prop := fv.map (·.1) = fs.map (·.1) ∧ RepL K H (fv.map (·.2)) (fs.map (·.2))
/-- a dict's pairs -/
def RepK (K : PySem.W.Frag) (H : Hp) (kv : List (Key × V)) (kd : List (Key × D)) : Prop := kv.map (·.1) = kd.map (·.1) ∧ RepL K H (kv.map (·.2)) (kd.map (·.2))
def LkAt (lk : Option (Obj × List (Key × V))) (kv : List (Key × V)) (u : HO) : Prop := match lk with
  | none => u = .dK kv
  | some q => q.2 = kv ∧ u = .frz q.1 (.dK kv)
/-- the numbers of the draws -/
def DrawOk (H : Hp) (a a0 : Addr) : Prop := ∃ (cs : List Int) (s : Int), H a = some (.lst [.ref a0, .int s]) ∧ H a0 = some (.lst (cs.map V.int)) ∧ 0 ≤ s ∧ s < 4294967296 ∧ cs.length ≤ 100 ∧ ∀ c ∈ cs, 0 ≤ c
/-- the def x's table at a: what it tells are code objects (F: they never change) of the name q -/
def TabOk (K : PySem.W.Frag) (F H : Hp) (a : Addr) (x q : Str) : Prop := (∃ c, PySem.W.tabIn K x = some (c, a)) ∧ ∃ ps : Array Value, H a = some (.tbl ps) ∧ TriplesOk ps.toList ∧
  ∀ (pos : Pos) (cv : Value), codeAmong pos ps.toList = some cv → ∃ c, cv = .ref c ∧ F c = some (LamX.CodeO c q)
theorem TabOk.go {K : PySem.W.Frag} {F F' H H' : Hp} {a : Addr} {x q : Str} (t : TabOk K F H a x q) (e : Same F F') (ha : ∀ o, H a = some o → H' a = some o) : TabOk K F' H' a x q := by
  obtain ⟨h0, ps, h1, h2, h3⟩ := t
  refine ⟨h0, ps, ha _ h1, h2, fun pos cv hc => ?_⟩
  obtain ⟨c, e1, e2⟩ := h3 pos cv hc
  exact ⟨c, e1, e _ _ e2⟩
/-- an exception at a, made and not raised: its dict never changes -/
def ErrOk (K : PySem.W.Frag) (F H : Hp) (a : Addr) (x : Str) (fs : List (Str × D)) : Prop := ∃ (C dx : Addr) (fv : List (Str × V)), ClsAt K x C ∧ H a = some (exo a C (some dx)) ∧ F dx = some (exd dx fv) ∧ RepF K F fv fs
def BoxOk (H : Hp) (a : Addr) : Prop := ∃ c s t : Int, H a = some (.lst [.int c, .int s, .int t]) ∧ 0 ≤ c ∧ 0 ≤ s ∧ 0 ≤ t
def CellOk (K : PySem.W.Frag) (Z H : Hp) (M : Mp) (a : Addr) : Cell → Prop
  | .lst ds => ∃ vs, H a = some (.lst vs) ∧ RepL K (fz Z H M) vs ds
  | .drw a0 => M a0 = some .aux ∧ DrawOk H a a0
  | .aux => ∃ o, H a = some o
  | .ins x fs => ∃ C dx fv, ClsAt K x C ∧ H a = some (.ins C dx fv) ∧ RepF K (fz Z H M) fv fs
  | .dic lk kd => ∃ kv u, H a = some u ∧ LkAt lk kv u ∧ RepK K (fz Z H M) kv kd
  | .tab x q => TabOk K (fz Z H M) H a x q
  | .box => BoxOk H a
  | .err x fs => ErrOk K (fz Z H M) H a x fs
structure Sat (K : PySem.W.Frag) (Z : Hp) (H : Hp) (M : Mp) : Prop where
  cell : ∀ a c, M a = some c → CellOk K Z H M a c
  zed : ∀ a o, Z a = some o → H a = some o ∧ M a = none
theorem Sat.there {K : PySem.W.Frag} {Z : Hp} {H : Hp} {M : Mp} {a : Addr} {c : Cell} (S : Sat K Z H M) (h : M a = some c) : ∃ o, H a = some o := by
  have q := S.cell a c h
  cases c with
  | aux => exact q
  | drw a0 => obtain ⟨_, cs, s, e, _⟩ := q; exact ⟨_, e⟩
  | lst ds => obtain ⟨vs, e, _⟩ := q; exact ⟨_, e⟩
  | ins x fs => obtain ⟨C, dx, fv, _, e, _⟩ := q; exact ⟨_, e⟩
  | dic lk kd => obtain ⟨_, _, e, _⟩ := q; exact ⟨_, e⟩
  | tab x q0 => obtain ⟨_, ps, e, _⟩ := q; exact ⟨_, e⟩
  | box => obtain ⟨_, _, _, e, _⟩ := q; exact ⟨_, e⟩
  | err x fs => obtain ⟨_, _, _, _, e, _⟩ := q; exact ⟨_, e⟩
theorem Sat.free {K : PySem.W.Frag} {Z : Hp} {H : Hp} {M : Mp} {a : Addr} (S : Sat K Z H M) (h : H a = none) : M a = none := by
  cases q : M a with
  | none => rfl
  | some c =>
    obtain ⟨o, e⟩ := S.there q
    rw [h] at e
    cases e
theorem Sat.freeZ {K : PySem.W.Frag} {Z : Hp} {H : Hp} {M : Mp} {a : Addr} (S : Sat K Z H M) (h : H a = none) : Z a = none := by
  cases q : Z a with
  | none => rfl
  | some c =>
    have e := (S.zed a c q).1
    rw [h] at e
    cases e
theorem RepK.up {K : PySem.W.Frag} {H H' : Hp} {v : List (Key × V)} {d : List (Key × D)} (h : RepK K H v d) (e : Same H H') : RepK K H' v d := ⟨h.1, h.2.up e⟩
theorem RepF.up {K : PySem.W.Frag} {H H' : Hp} {v : List (Str × V)} {d : List (Str × D)} (h : RepF K H v d) (e : Same H H') : RepF K H' v d := ⟨h.1, h.2.up e⟩
/-- a step: the heap and the store behind it -/
structure Go (K : PySem.W.Frag) (Z : Hp) (H : Hp) (M : Mp) (H' : Hp) (M' : Mp) : Prop where
  sat : Sat K Z H' M'
  ex : Same (fz Z H M) (fz Z H' M')
theorem Go.refl {K : PySem.W.Frag} {Z : Hp} {H : Hp} {M : Mp} (S : Sat K Z H M) : Go K Z H M H M := ⟨S, Same.refl _⟩
theorem Go.trans {K : PySem.W.Frag} {Z : Hp} {H H1 H2 : Hp} {M M1 M2 : Mp} (a : Go K Z H M H1 M1) (b : Go K Z H1 M1 H2 M2) : Go K Z H M H2 M2 := ⟨b.sat, a.ex.trans b.ex⟩
/-- a cell whose object stands as it stood -/
theorem CellOk.same {K : PySem.W.Frag} {Z Z' : Hp} {H H' : Hp} {M M' : Mp} {a : Addr} {c : Cell} (q : CellOk K Z H M a c) (ex : Same (fz Z H M) (fz Z' H' M')) (ha : ∀ o, H a = some o → H' a = some o)
    (aux : ∀ b, M b = some .aux → M' b = some .aux ∧ ∀ o, H b = some o → H' b = some o) : CellOk K Z' H' M' a c := by
  cases c with
  | aux =>
    obtain ⟨o, e⟩ := q
    exact ⟨o, ha o e⟩
  | drw a0 =>
    obtain ⟨m0, cs, s, e, e0, r⟩ := q
    obtain ⟨m1, k⟩ := aux a0 m0
    exact ⟨m1, cs, s, ha _ e, k _ e0, r⟩
  | lst ds =>
    obtain ⟨vs, e, r⟩ := q
    exact ⟨vs, ha _ e, r.up ex⟩
  | ins x fs =>
    obtain ⟨C, dx, fv, cl, e, r⟩ := q
    exact ⟨C, dx, fv, cl, ha _ e, r.up ex⟩
  | dic lk kd =>
    obtain ⟨kv, u, e, l, r⟩ := q
    exact ⟨kv, u, ha _ e, l, r.up ex⟩
  | tab x q0 => exact TabOk.go q ex ha
  | box =>
    obtain ⟨c, s, t, e, r⟩ := q
    exact ⟨c, s, t, ha _ e, r⟩
  | err x fs =>
    obtain ⟨C, dx, fv, cl, e, ed, r⟩ := q
    exact ⟨C, dx, fv, cl, ha _ e, ex _ _ ed, r.up ex⟩
/-- a new object that never changes -/
theorem Go.laid {K : PySem.W.Frag} {Z : Hp} {H : Hp} {M : Mp} {p : Addr} {o : HO} (S : Sat K Z H M) (hp : H p = none) : Go K Z H M (upd H p o) M ∧ fz Z (upd H p o) M p = some o := by
  have hm := S.free hp
  have hz := S.freeZ hp
  have up : ∀ b u, H b = some u → upd H p o b = some u := fun b u e => by
    rw [upd_ne (ne_of_none e hp)]
    exact e
  have ex : Same (fz Z H M) (fz Z (upd H p o) M) := fun b u e => fz_to (fz_is e).1 (fz_is e).2.1 (up b u (fz_is e).2.2)
  exact ⟨⟨⟨fun a c h => (S.cell a c h).same ex (up a) fun b e => ⟨e, up b⟩, fun a u h => ⟨up a u (S.zed a u h).1, (S.zed a u h).2⟩⟩, ex⟩, fz_to hm hz upd_same⟩
/-- a list of the store: new, or changed -/
theorem Go.putL {K : PySem.W.Frag} {Z : Hp} {H : Hp} {M : Mp} {p : Addr} {vs : List V} {ds : List D} (S : Sat K Z H M) (hp : (H p = none) ∨ ∃ es, M p = some (.lst es)) (r : RepL K (fz Z H M) vs ds) : Go K Z H M (upd H p (.lst vs)) (setM M p (.lst ds)) := by
  have hz : Z p = none := by
    rcases hp with h | ⟨es, h⟩
    · exact S.freeZ h
    · cases q : Z p with
      | none => rfl
      | some u =>
        have e := (S.zed p u q).2
        rw [h] at e
        cases e
  have hf : ∀ u, fz Z H M p ≠ some u := fun u e => by
    obtain ⟨e1, _, e2⟩ := fz_is e
    rcases hp with h | ⟨es, h⟩
    · rw [h] at e2
      cases e2
    · rw [h] at e1
      cases e1
  have hx : M p ≠ some .aux := fun e => by
    rcases hp with h | ⟨es, h⟩
    · obtain ⟨o, e'⟩ := S.there e
      rw [h] at e'
      cases e'
    · rw [h] at e
      cases e
  have ex : Same (fz Z H M) (fz Z (upd H p (.lst vs)) (setM M p (.lst ds))) := fun b u e => by
    have hb : b ≠ p := fun z => by
      subst z
      exact hf u e
    obtain ⟨e1, e2, e3⟩ := fz_is e
    exact fz_to (by rw [setM_ne hb]; exact e1) e2 (by rw [upd_ne hb]; exact e3)
  have aux : ∀ b, M b = some .aux → setM M p (.lst ds) b = some .aux ∧ ∀ o, H b = some o → upd H p (.lst vs) b = some o := fun b e => by
    have hb : b ≠ p := fun z => by
      subst z
      exact hx e
    exact ⟨by rw [setM_ne hb]; exact e, fun o q => by rw [upd_ne hb]; exact q⟩
  refine ⟨⟨fun a c h => ?_, fun a u h => ?_⟩, ex⟩
  · by_cases ha : a = p
    · subst ha
      rw [setM_same] at h
      cases h
      exact ⟨vs, upd_same, r.up ex⟩
    · rw [setM_ne ha] at h
      exact (S.cell a c h).same ex (fun o q => by rw [upd_ne ha]; exact q) aux
  · have ha : a ≠ p := fun z => by
      subst z
      rw [hz] at h
      cases h
    exact ⟨by rw [upd_ne ha]; exact (S.zed a u h).1, by rw [setM_ne ha]; exact (S.zed a u h).2⟩
/-- any cell: new, or changed -/
theorem Go.put {K : PySem.W.Frag} {Z : Hp} {H : Hp} {M : Mp} {p : Addr} {o : HO} {c : Cell} (S : Sat K Z H M) (hp : (H p = none) ∨ ∃ c0, M p = some c0 ∧ c0 ≠ .aux) (ok : Same (fz Z H M) (fz Z (upd H p o) (setM M p c)) → CellOk K Z (upd H p o) (setM M p c) p c) : Go K Z H M (upd H p o) (setM M p c) := by
  have hz : Z p = none := by
    rcases hp with h | ⟨c0, h, _⟩
    · exact S.freeZ h
    · cases q : Z p with
      | none => rfl
      | some u =>
        have e := (S.zed p u q).2
        rw [h] at e
        cases e
  have hf : ∀ u, fz Z H M p ≠ some u := fun u e => by
    obtain ⟨e1, _, e2⟩ := fz_is e
    rcases hp with h | ⟨c0, h, _⟩
    · rw [h] at e2
      cases e2
    · rw [h] at e1
      cases e1
  have hx : M p ≠ some .aux := fun e => by
    rcases hp with h | ⟨c0, h, n⟩
    · obtain ⟨o, e'⟩ := S.there e
      rw [h] at e'
      cases e'
    · rw [h] at e
      cases e
      exact n rfl
  have ex : Same (fz Z H M) (fz Z (upd H p o) (setM M p c)) := fun b u e => by
    have hb : b ≠ p := fun z => by
      subst z
      exact hf u e
    obtain ⟨e1, e2, e3⟩ := fz_is e
    exact fz_to (by rw [setM_ne hb]; exact e1) e2 (by rw [upd_ne hb]; exact e3)
  have aux : ∀ b, M b = some .aux → setM M p c b = some .aux ∧ ∀ u, H b = some u → upd H p o b = some u := fun b e => by
    have hb : b ≠ p := fun z => by
      subst z
      exact hx e
    exact ⟨by rw [setM_ne hb]; exact e, fun u q => by rw [upd_ne hb]; exact q⟩
  refine ⟨⟨fun a c' h => ?_, fun a u h => ?_⟩, ex⟩
  · by_cases ha : a = p
    · subst ha
      rw [setM_same] at h
      cases h
      exact ok ex
    · rw [setM_ne ha] at h
      exact (S.cell a c' h).same ex (fun u q => by rw [upd_ne ha]; exact q) aux
  · have ha : a ≠ p := fun z => by
      subst z
      rw [hz] at h
      cases h
    exact ⟨by rw [upd_ne ha]; exact (S.zed a u h).1, by rw [setM_ne ha]; exact (S.zed a u h).2⟩
/-- a draw: the two lists of the numbers change -/
theorem Go.drawn {K : PySem.W.Frag} {Z : Hp} {H H' : Hp} {M : Mp} {a a0 : Addr} (S : Sat K Z H M) (hp : M a = some (.drw a0)) (k : ∀ b o, b ≠ a → b ≠ a0 → H b = some o → H' b = some o) (q : DrawOk H' a a0) : Go K Z H M H' M := by
  obtain ⟨m0, _⟩ := S.cell a _ hp
  have ex : Same (fz Z H M) (fz Z H' M) := fun b u e => by
    obtain ⟨e1, e2, e3⟩ := fz_is e
    have h1 : b ≠ a := fun z => by
      subst z
      rw [hp] at e1
      cases e1
    have h2 : b ≠ a0 := fun z => by
      subst z
      rw [m0] at e1
      cases e1
    exact fz_to e1 e2 (k b _ h1 h2 e3)
  refine ⟨⟨fun b c h => ?_, fun b u h => ?_⟩, ex⟩
  · by_cases h1 : b = a
    · subst h1
      rw [hp] at h
      cases h
      exact ⟨m0, q⟩
    · by_cases h2 : b = a0
      · subst h2
        rw [m0] at h
        cases h
        obtain ⟨cs', s', _, e0', _⟩ := q
        exact ⟨_, e0'⟩
      · cases c with
        | drw b0 =>
          obtain ⟨n0, cs, s, e, e0, r⟩ := S.cell b _ h
          refine ⟨n0, ?_⟩
          by_cases h3 : b0 = a0
          · subst h3
            obtain ⟨cs', s', _, e0', _, _, l', g'⟩ := q
            exact ⟨cs', s, k b _ h1 h2 e, e0', r.1, r.2.1, l', g'⟩
          · have h4 : b0 ≠ a := fun z => by
              subst z
              rw [hp] at n0
              cases n0
            exact ⟨cs, s, k b _ h1 h2 e, k b0 _ h4 h3 e0, r⟩
        | lst ds =>
          obtain ⟨vs, e, r⟩ := S.cell b _ h
          exact ⟨vs, k b _ h1 h2 e, r.up ex⟩
        | aux =>
          obtain ⟨o, e⟩ := S.cell b _ h
          exact ⟨o, k b _ h1 h2 e⟩
        | ins x fs =>
          obtain ⟨C, dx, fv, cl, e, r⟩ := S.cell b _ h
          exact ⟨C, dx, fv, cl, k b _ h1 h2 e, r.up ex⟩
        | dic lk kd =>
          obtain ⟨kv, u, e, l, r⟩ := S.cell b _ h
          exact ⟨kv, u, k b _ h1 h2 e, l, r.up ex⟩
        | tab x q0 => exact TabOk.go (S.cell b _ h) ex (fun o e => k b o h1 h2 e)
        | box =>
          obtain ⟨c, s, t, e, r⟩ := S.cell b _ h
          exact ⟨c, s, t, k b _ h1 h2 e, r⟩
        | err x fs =>
          obtain ⟨C, dx, fv, cl, e, ed, r⟩ := S.cell b _ h
          exact ⟨C, dx, fv, cl, k b _ h1 h2 e, ex _ _ ed, r.up ex⟩
  · obtain ⟨e1, e2⟩ := S.zed b u h
    have h1 : b ≠ a := fun z => by
      subst z
      rw [hp] at e2
      cases e2
    have h2 : b ≠ a0 := fun z => by
      subst z
      rw [m0] at e2
      cases e2
    exact ⟨k b _ h1 h2 e1, e2⟩
/-- an object is hidden while something else runs; it is another one then, or is shown again -/
theorem Sat.swap {K : PySem.W.Frag} {Z Z' : Hp} {H H' : Hp} {M : Mp} {p : Addr} (S : Sat K Z H M) (hm : M p = none) (hf : fz Z H M p = none) (hH : ∀ b, b ≠ p → H' b = H b) (hZ : ∀ b, b ≠ p → Z' b = Z b) (hq : ∀ o, Z' p = some o → H' p = some o) : Sat K Z' H' M ∧ Same (fz Z H M) (fz Z' H' M) := by
  have ex : Same (fz Z H M) (fz Z' H' M) := fun b v e => by
    have hb : b ≠ p := fun z => by
      subst z
      rw [hf] at e
      cases e
    obtain ⟨e1, e2, e3⟩ := fz_is e
    exact fz_to e1 (by rw [hZ b hb]; exact e2) (by rw [hH b hb]; exact e3)
  have ne : ∀ {b : Addr} {c : Cell}, M b = some c → b ≠ p := fun {b c} e z => by
    subst z
    rw [hm] at e
    cases e
  refine ⟨⟨fun a c h => (S.cell a c h).same ex (fun o q => by rw [hH a (ne h)]; exact q) fun b e => ⟨e, fun o q => by rw [hH b (ne e)]; exact q⟩, fun a v h => ?_⟩, ex⟩
  by_cases ha : a = p
  · subst ha
    exact ⟨hq v h, hm⟩
  · rw [hZ a ha] at h
    exact ⟨by rw [hH a ha]; exact (S.zed a v h).1, (S.zed a v h).2⟩
/-! ### readings over data -/
abbrev En := List (Option D)
abbrev KD := D → Mp → Prop
abbrev WE := En → Mp → KD → Prop
abbrev WT := En → Mp → (Bool → Mp → Prop) → Prop
abbrev WA := En → Mp → (List D → Mp → Prop) → Prop
/-- what is wished of what is raised: its class, its dict, its fields' names and values, the environment -/
abbrev XV := List Str × List D
abbrev XR := Str → Addr → XV → En → Mp → Prop
abbrev XF := Str → XV → Mp → Prop
/-- .. behind a def -/
def lx (R : XF) : XR := fun x _ fs _ M => R x fs M
abbrev WX3 := Value → Option Addr → L2.St → Hp → Prop
structure Ends3 where
  nx : En → Mp → Prop
  rt : KD
  bk : En → Mp → Prop := fun _ _ => False
  ct : En → Mp → Prop := fun _ _ => False
  xr : XR := fun _ _ _ _ _ => False
abbrev WS := Ends3 → En → Mp → Prop
/-- the slots hold what the environment says -/
def RelS (K : PySem.W.Frag) (Hf : Hp) (σ : L2.St) (ρ : En) : Prop := σ.length = ρ.length ∧ ∀ (i : Nat) (d : D), ρ[i]? = some (some d) → ∃ v, σ[i]? = some (some v) ∧ Rep K Hf v d
theorem RelS.up {K : PySem.W.Frag} {H H' : Hp} {σ : L2.St} {ρ : En} (h : RelS K H σ ρ) (e : Same H H') : RelS K H' σ ρ := ⟨h.1, fun i d q => by
  obtain ⟨v, a, b⟩ := h.2 i d q
  exact ⟨v, a, b.up e⟩⟩
theorem RelS.set {K : PySem.W.Frag} {H : Hp} {σ : L2.St} {ρ : En} {v : V} {d : D} (h : RelS K H σ ρ) (j : Nat) (r : Rep K H v d) : RelS K H (σ.set j (some v)) (ρ.set j (some d)) := by
  refine ⟨by rw [List.length_set, List.length_set]; exact h.1, fun i e q => ?_⟩
  by_cases hij : i = j
  · subst hij
    have hl : i < ρ.length := by
      rcases Nat.lt_or_ge i ρ.length with z | z
      · exact z
      · rw [List.getElem?_eq_none (by rw [List.length_set]; exact z)] at q
        cases q
    rw [List.getElem?_set_self hl] at q
    cases q
    exact ⟨v, List.getElem?_set_self (by rw [h.1]; exact hl), r⟩
  · rw [List.getElem?_set_ne (Ne.symm hij)] at q
    obtain ⟨u, a, b⟩ := h.2 i e q
    exact ⟨u, by rw [List.getElem?_set_ne (Ne.symm hij)]; exact a, b⟩
structure R3 (K : PySem.W.Frag) (Z : Hp) (ρ : En) (M : Mp) (σ : L2.St) (H : Hp) : Prop where
  sat : Sat K Z H M
  env : RelS K (fz Z H M) σ ρ
theorem R3.go {K : PySem.W.Frag} {Z : Hp} {ρ : En} {M M' : Mp} {σ : L2.St} {H H' : Hp} (r : R3 K Z ρ M σ H) (g : Go K Z H M H' M') : R3 K Z ρ M' σ H' := ⟨g.sat, r.env.up g.ex⟩
theorem R3.refl {K : PySem.W.Frag} {Z : Hp} {ρ : En} {M : Mp} {σ : L2.St} {H : Hp} (r : R3 K Z ρ M σ H) : Go K Z H M H M := Go.refl r.sat
def SimE (K : PySem.W.Frag) (t : TE) (w : WE) : Prop := ∀ (Z : Hp) (ρ : En) (M : Mp) (σ : L2.St) (H : Hp) (Q : KD) (Q' : VK), R3 K Z ρ M σ H → w ρ M Q → (∀ v d H' M', Go K Z H M H' M' → Rep K (fz Z H' M') v d → Q d M' → Q' v H') → t σ H Q'
def SimT (K : PySem.W.Frag) (t : TT) (w : WT) : Prop := ∀ (Z : Hp) (ρ : En) (M : Mp) (σ : L2.St) (H : Hp) (Q : Bool → Mp → Prop) (Q' : Bool → Hp → Prop), R3 K Z ρ M σ H → w ρ M Q → (∀ b H' M', Go K Z H M H' M' → Q b M' → Q' b H') → t σ H Q'
def SimA (K : PySem.W.Frag) (t : TA) (w : WA) : Prop := ∀ (Z : Hp) (ρ : En) (M : Mp) (σ : L2.St) (H : Hp) (Q : List D → Mp → Prop) (Q' : List V → Hp → Prop), R3 K Z ρ M σ H → w ρ M Q → (∀ v d H' M', Go K Z H M H' M' → RepL K (fz Z H' M') v d → Q d M' → Q' v H') → t σ H Q'
structure EndsRel (K : PySem.W.Frag) (Z : Hp) (E : WX3) (H : Hp) (M : Mp) (D3 : Ends3) (D : Ends) : Prop where
  nx : ∀ ρ' M' σ' H', R3 K Z ρ' M' σ' H' → Go K Z H M H' M' → D3.nx ρ' M' → D.nx σ' H'
  rt : ∀ v d H' M', Go K Z H M H' M' → Rep K (fz Z H' M') v d → D3.rt d M' → D.rt v H'
  bk : ∀ ρ' M' σ' H', R3 K Z ρ' M' σ' H' → Go K Z H M H' M' → D3.bk ρ' M' → D.bk σ' H'
  ct : ∀ ρ' M' σ' H', R3 K Z ρ' M' σ' H' → Go K Z H M H' M' → D3.ct ρ' M' → D.ct σ' H'
  xr : ∀ x C dx vs (fs : XV) ρ' σ' H' M', ClsAt K x C → R3 K Z ρ' M' σ' H' → Go K Z H M H' M' → fz Z H' M' dx = some (.xd (fs.1.zip vs)) → fs.1.length = vs.length → RepL K (fz Z H' M') vs fs.2 → D3.xr x dx fs ρ' M' → E (.ref C) (some dx) σ' H'
theorem EndsRel.go {K : PySem.W.Frag} {Z : Hp} {E : WX3} {H H' : Hp} {M M' : Mp} {D3 : Ends3} {D : Ends} (r : EndsRel K Z E H M D3 D) (g : Go K Z H M H' M') : EndsRel K Z E H' M' D3 D :=
  ⟨fun ρ N σ J a b c => r.nx ρ N σ J a (g.trans b) c, fun v d J N a b c => r.rt v d J N (g.trans a) b c, fun ρ N σ J a b c => r.bk ρ N σ J a (g.trans b) c, fun ρ N σ J a b c => r.ct ρ N σ J a (g.trans b) c,
    fun x C dx vs fs ρ σ J N k q a b l c z => r.xr x C dx vs fs ρ σ J N k q (g.trans a) b l c z⟩
def SimS (K : PySem.W.Frag) (E : WX3) (t : TS) (w : WS) : Prop := ∀ (Z : Hp) (D3 : Ends3) (ρ : En) (M : Mp) (σ : L2.St) (H : Hp) (D : Ends), R3 K Z ρ M σ H → w D3 ρ M → EndsRel K Z E H M D3 D → t D σ H
structure DE (X : Cx) (e : Expr) (t : TE) (w : WE) : Prop where
  pe : PE X e t
  sm : SimE X.K t w
structure DT (X : Cx) (e : Expr) (t : TT) (w : WT) : Prop where
  pe : PT X e t
  sm : SimT X.K t w
structure DW (X : Cx) (e : Expr) (t : TT) (w : WT) : Prop where
  pe : PW X e t
  sm : SimT X.K t w
structure DA (X : Cx) (e : List Expr) (t : TA) (w : WA) : Prop where
  pe : PA X e t
  sm : SimA X.K t w
structure DS (X : Cx) (E : WX3) (st : Stmt) (t : TS) (w : WS) : Prop where
  pe : PS X st t
  sm : SimS X.K E t w
structure DSs (X : Cx) (E : WX3) (st : List Stmt) (t : TS) (w : WS) : Prop where
  pe : PSs X st t
  sm : SimS X.K E t w
end L3
namespace L3
open PySem L2
open PyProof.Rows (envOfC)
/-! ### defs, called where nothing is being shown -/
structure FnG (P : Program) (w : World) (K : PySem.W.Frag) (mg : Str → Option Value) (base : Heap) (k : Nat) (f : Addr) (fd : FuncData) (ps : List Str) (sp : Sp) : Prop where
  len : ∀ vs H Q E, sp vs H Q E → vs.length = ps.length
  run : ∀ (A : Around) (outer : List Env) (s : Shared) (H : Hp) (args : Args) (us : List Value) (vs : List V) (Q : VK) (E : XK), A.guards = some [] → Room k A → Env0 P w K mg base A outer s H → BindsTo s fd args (ps.zip us) → Vals vs us → sp vs H Q E →
    codeAny (model P w) A (.call (.ref f) args) (CR (L2.CX P w) outer P w H s Q E) s
theorem FnG.mono {P : Program} {w : World} {K : PySem.W.Frag} {mg : Str → Option Value} {base : Heap} {j k : Nat} {f : Addr} {fd : FuncData} {ps : List Str} {sp : Sp} (F : FnG P w K mg base j f fd ps sp) (h : j ≤ k) : FnG P w K mg base k f fd ps sp :=
  ⟨F.len, fun A o s H ar us vs Q E g hr => F.run A o s H ar us vs Q E g (hr.mono h)⟩
section
variable {P : Program} {w : World} {K : PySem.W.Frag} {mg : Str → Option Value} {base : Heap}
theorem fn_g {x qual : Str} {st : Stmt} {f : Addr} {fd : FuncData} {N ps : List Str} {k : Nat} {sp : Sp} (F : Fun K x qual st f fd) (S : FnScope N ps (defScope st)) (len : ∀ vs H Q E, sp vs H Q E → vs.length = ps.length)
    (body : ∀ (cdv : Value) (A : Around) (outer : List Env) (s : Shared) (H : Hp) (vs : List V) (Q : VK) (E : XK), A.guards = some [] → Room k (A.deeper (envOfC qual (defScope st) s.heap.objs.size f cdv)) → sp vs H Q E →
      ∃ t, PSs (cxOf (L2.CX P w) P w K mg base N qual (defScope st) f cdv A outer s H E) (defBody st) t ∧ t { nx := fun _ J => Q .non J, rt := Q } (L2.start N vs) H) : FnG P w K mg base (k + 1) f fd ps sp := by
  obtain ⟨oc, od, kV, doc, pm, an, cdv, ct, osl, rfl, lk, hcd⟩ := F.ex
  refine ⟨len, fun A outer s H args us vs Q E gd hr e0 hb r hs => ?_⟩
  have hlen := len _ _ _ _ hs
  have kin : K.In s.heap := e0.mod.kin.keeps fun b o e => (e0.bs b o e).1
  have nol : s.heap.NoLimit := e0.mod.nolimit.keeps fun b o e => (e0.bs b o e).1
  have kinds : ∀ y ∈ ps.zip us, (defScope st).names.lookup y.1 = some .local ∨ ((defScope st).names.lookup y.1 = some .cell ∧ ((cellsFrom (s.heap.objs.size + 1) (defScope st).names []).lookup y.1).isSome = true) := fun ⟨n, v⟩ hy => by
    rcases S.par n (List.of_mem_zip hy).1 with z | z
    · exact .inl z
    · exact .inr ⟨z, PySem.W.cellsFrom_some _ _ _ (.inl z)⟩
  refine codeAny_call_function hr.depth (kin _ _ lk) rfl S.co S.gen rfl (PySem.W.codeRec_of kin hcd) (hb _ _ _ _ ?_)
  refine wpAny_newFunctionEnv_cells S.kind kinds fun env he s1 c => ?_
  subst he
  refine ⟨nol.keeps c.toInCall.keep, codeAny_func ?_⟩
  obtain ⟨t, ht, hq⟩ := body cdv A outer s H vs Q E gd (hr.deeper _) hs
  have I : Inv (cxOf (L2.CX P w) P w K mg base N qual (defScope st) f cdv A outer s H E) [] (L2.start N vs) H s1 := inv_start S hr.hd e0 hlen r c
  refine wpAny_mono (ht.run [] s1 (L2.start N vs) H _ I hq) (fun fl s' hz => ?_) fun e s' hz => hz
  have fin : ∀ {σ' : L2.St} {H' : Hp} {v : V} {u : Value}, Inv (cxOf (L2.CX P w) P w K mg base N qual (defScope st) f cdv A outer s H E) [] σ' H' s' → RelV v u → Q v H' → CE outer P w H s Q u s' :=
    fun {σ' H' v u} J rv z => ⟨v, H', J.os, J.bare, J.base, J.hok, rv, z⟩
  cases fl with
  | ret u =>
    obtain ⟨v, σ', H', J, rv, z⟩ := hz
    exact fin J rv z
  | next =>
    obtain ⟨σ', H', J, z⟩ := hz
    exact fin (v := V.non) (u := Value.none) J rfl z
  | brk => exact (hz.elim fun _ h => h.elim fun _ h => h.2).elim
  | cont => exact (hz.elim fun _ h => h.elim fun _ h => h.2).elim
end
section
variable {X : Cx} {k : Nat} {f C : Addr} {fd : FuncData} {ps : List Str} {sp : Sp} {dvs : List V} {ds : List Value} {E : XK} {x m : Str} {p pos apos : Pos} {e o : Expr} {es : List Expr} {ta : TE} {t : TA}
theorem run_g {pins : List (Addr × Obj)} {σ : L2.St} {H : Hp} {s : Shared} {Q : VK} {us ws : List Value} {vs : List V} {kw : List (Str × Value)} (F : FnG X.prog X.w X.K X.mg X.base k f fd ps sp) (hr : Room k X.A) (gd : X.A.guards = some []) (hx : Passes (L2.CX X.prog X.w) X E)
    (I : Inv X pins σ H s) (hb : BindsTo s fd ⟨us, kw⟩ (ps.zip ws)) (r : Vals vs ws) (h : sp vs H Q E) : wpAny (model X.prog X.w) X.A (call (.ref f) us kw) (EP X pins σ Q) X.xe s := by
  refine wpAny_call (codeAny_mono (F.run X.A X.stack s H ⟨us, kw⟩ ws vs Q E gd hr I.env0 hb r h) fun rr s' hq => ?_)
  cases rr with
  | error er => exact hx pins σ H s er s' I hq
  | ok fl =>
    cases fl with
    | ret u => exact I.after hq
    | next => exact hq.elim
    | brk => exact hq.elim
    | cont => exact hq.elim
def tCallG (sp : Sp) (dvs : List V) (E : XK) (t : TA) : TE := fun σ H Q => t σ H fun vs J => sp (vs ++ dvs) J Q E
theorem pe_callG (F : FnG X.prog X.w X.K X.mg X.base k f fd ps sp) (hr : Room k X.A) (gd : X.A.guards = some []) (hg : Gl X x) (hm : X.mg x = some (.ref f)) (hk : PySem.W.keepIn X.K (.ref f) = true) (hb : Binds X.K fd ps ds) (hd : Vals dvs ds) (hx : Passes (L2.CX X.prog X.w) X E)
    (ha : PA X (e :: es) t) (hdb : (x == ("__debug__" : Str)) = false := by decide) (he : starEach (e :: es) X.env = (false, eval e X.env) :: starEach es X.env := by rfl) (hpl : (backTo pos (starEach es X.env)).any (·.1) = false := by rfl) :
    PE X (.Call (.Name x p) (e :: es) [] pos) (tCallG sp dvs E t) := by
  constructor
  intro pins s σ H Q I h
  refine wpAny_Call_Name_kw (ld_glob I hg hm ?_ hdb)
  refine PySem.W.callWith_K (h₀ := X.base) I.ok.mod.kin hk (thn (ha.run pos pins s σ H _ I h) fun us s1 ⟨vs, J, I1, r, q⟩ => ⟨I1.kIn, ?_⟩) he hpl
  have r2 : Vals (vs ++ dvs) (us ++ ds) := r.append hd
  have hl : (us ++ ds).length = ps.length := by rw [← r2.length]; exact F.len _ _ _ _ q
  exact run_g (us := us) (kw := []) F hr gd hx I1 (hb s1 us I1.kIn hl) r2 q
/-- the parameters' values, each by its place among what is written: first the positional ones, then the keywords' -/
def perm (idx : List Nat) (vs zs : List V) : List V := idx.map fun i => (vs ++ zs).getD i .non
def permU (idx : List Nat) (vs zs : List Value) : List Value := idx.map fun i => (vs ++ zs).getD i .none
theorem perm_rel (idx : List Nat) {vs zs : List V} {us ws : List Value} (r : Vals vs us) (q : Vals zs ws) : Vals (perm idx vs zs) (permU idx us ws) := by
  have ra := r.append q
  unfold perm permU
  induction idx with
  | nil => exact .nil
  | cons i is ih =>
    refine .cons ?_ ih
    show RelV ((vs ++ zs).getD i .non) ((us ++ ws).getD i .none)
    rw [List.getD_eq_getElem?_getD, List.getD_eq_getElem?_getD]
    cases e : (vs ++ zs)[i]? with
    | none =>
      rw [ra.none_of e]
      rfl
    | some v =>
      obtain ⟨u, h1, h2⟩ := ra.get e
      rw [h1]
      exact h2
/-- how a call with keywords binds -/
def KB (K : PySem.W.Frag) (fd : FuncData) (ps : List Str) (n : Nat) (ks : List Str) (idx : List Nat) : Prop := ∀ (s : Shared) (us ws : List Value), K.In s.heap → us.length = n → ws.length = ks.length → BindsTo s fd ⟨us, ks.zip ws⟩ (ps.zip (permU idx us ws))
def tCallGK (n m : Nat) (idx : List Nat) (sp : Sp) (E : XK) (t tk : TA) : TE := fun σ H Q => t σ H fun vs J => tk σ J fun zs J2 => vs.length = n ∧ zs.length = m ∧ sp (perm idx vs zs) J2 Q E
theorem pe_callGK0 {ks : List Str} {kws : List Keyword} {tk : TA} {idx : List Nat} (F : FnG X.prog X.w X.K X.mg X.base k f fd ps sp) (hr : Room k X.A) (gd : X.A.guards = some []) (hg : Gl X x) (hm : X.mg x = some (.ref f))
    (hk : PySem.W.keepIn X.K (.ref f) = true) (hb : KB X.K fd ps 0 ks idx) (hx : Passes (L2.CX X.prog X.w) X E)
    (hkw : PK X kws tk) (hall : (backToKw pos (keywordEach kws X.env)).all (·.1.isSome) = true := by rfl) (hks : (backToKw pos (keywordEach kws X.env)).filterMap (·.1) = ks := by rfl)
    (hdb : (x == ("__debug__" : Str)) = false := by decide)
    (hpl : ((backTo pos (starEach [] X.env)).any (·.1) || (backToKw pos (keywordEach kws X.env)).any (·.1.isNone)) = false := by rfl) :
    PE X (.Call (.Name x p) [] kws pos) (tCallGK 0 ks.length idx sp E tNil tk) := by
  constructor
  intro pins s σ H Q I h
  refine wpAny_Call_Name_kw (ld_glob I hg hm ?_ hdb)
  refine PySem.W.callWith_KW0 (h₀ := X.base) I.ok.mod.kin hk hall ?_ hpl
  refine thn (hkw.run pos pins s σ H _ I h) fun ws s2 ⟨zs, H2, I2, rz, l1, l2, q2⟩ => ⟨I2.kIn, ?_⟩
  rw [hks]
  have a2 : ws.length = ks.length := by rw [← rz.length]; exact l2
  exact run_g (us := []) F hr gd hx I2 (hb s2 [] ws I2.kIn rfl a2) (perm_rel idx .nil rz) q2
end
/-! ### contracts over data -/
abbrev Fs := List D → Mp → KD → XF → Prop
def lift (K : PySem.W.Frag) (F : Fs) : Sp := fun vs H Q E => ∃ (Z : Hp) (ds : List D) (M : Mp) (Qd : KD) (Rd : XF), Sat K Z H M ∧ RepL K (fz Z H M) vs ds ∧ F ds M Qd Rd ∧
  (∀ v d H' M', Go K Z H M H' M' → Rep K (fz Z H' M') v d → Qd d M' → Q v H') ∧ (∀ x C dx vs (fs : XV) H' M', ClsAt K x C → Go K Z H M H' M' → fz Z H' M' dx = some (.xd (fs.1.zip vs)) → fs.1.length = vs.length → RepL K (fz Z H' M') vs fs.2 → Rd x fs M' → E (.ref C) (some dx) H')
/-- the environment at a def's entry -/
def startE (n : Nat) (ds : List D) : En := ds.map some ++ List.replicate (n - ds.length) none
theorem start_rel {K : PySem.W.Frag} {H : Hp} {N : List Str} {vs : List V} {ds : List D} (r : RepL K H vs ds) : RelS K H (L2.start N vs) (startE N.length ds) := by
  unfold L2.start startE
  refine ⟨?_, fun i d e => ?_⟩
  · rw [List.length_append, List.length_append, List.length_map, List.length_map, List.length_replicate, List.length_replicate, r.len]
  · have hl := r.len
    by_cases hi : i < ds.length
    · rw [List.getElem?_append_left (by rw [List.length_map]; exact hi), List.getElem?_map] at e
      cases q : ds[i]? with
      | none =>
        rw [q] at e
        cases e
      | some d' =>
        rw [q] at e
        obtain rfl : d' = d := Option.some.inj (Option.some.inj e)
        obtain ⟨v, h1, h2⟩ := r.get q
        refine ⟨v, ?_, h2⟩
        rw [List.getElem?_append_left (by rw [List.length_map, hl]; exact hi), List.getElem?_map, h1]
        rfl
    · rw [List.getElem?_append_right (by rw [List.length_map]; omega), List.getElem?_replicate] at e
      split at e <;> cases e
def lw (E : XK) : WX3 := fun cls d _ H => E cls d H
section
variable {P : Program} {w : World} {K : PySem.W.Frag} {mg : Str → Option Value} {base : Heap}
theorem ok_fn {x qual : Str} {st : Stmt} {f : Addr} {fd : FuncData} {N ps : List Str} {k : Nat} {F : Fs} (Fn : Fun K x qual st f fd) (S : FnScope N ps (defScope st)) (len : ∀ ds M Q E, F ds M Q E → ds.length = ps.length)
    (body : ∀ (cdv : Value) (A : Around) (outer : List Env) (s : Shared) (H : Hp) (E : XK), A.guards = some [] → Room k (A.deeper (envOfC qual (defScope st) s.heap.objs.size f cdv)) →
      ∃ t wr, DSs (cxOf (L2.CX P w) P w K mg base N qual (defScope st) f cdv A outer s H E) (lw E) (defBody st) t wr ∧ ∀ ds M Q R, F ds M Q R → wr { nx := fun _ M' => Q .non M', rt := Q, xr := lx R } (startE N.length ds) M) : FnG P w K mg base (k + 1) f fd ps (lift K F) := by
  refine fn_g Fn S (fun vs H Q E h => ?_) (fun cdv A outer s H vs Q E gd hr h => ?_)
  · obtain ⟨Z, ds, M, Qd, Rd, _, r, q, _⟩ := h
    rw [r.len]
    exact len _ _ _ _ q
  · obtain ⟨Z, ds, M, Qd, Rd, sat, r, q, kq, kr⟩ := h
    obtain ⟨t, wr, hd, hw⟩ := body cdv A outer s H E gd hr
    refine ⟨t, hd.pe, hd.sm _ _ _ _ _ _ _ ⟨sat, start_rel r⟩ (hw ds M _ _ q) ⟨fun ρ' M' σ' H' _ g z => kq _ _ _ _ g .non z, fun v d H' M' g rp z => kq v d H' M' g rp z, fun _ _ _ _ _ _ z => z.elim, fun _ _ _ _ _ _ z => z.elim, fun x C dx vs fs ρ' σ' H' M' ca _ g e1 l rf z => kr x C dx vs fs H' M' ca g e1 l rf z⟩⟩
end
end L3
namespace L3
open PySem L2
/-! ### what can be shown, dicts too: only a dict must not be the table of modules -/
mutual
inductive RdD (h : Heap) : Value → PyData → Prop
  | non : RdD h .none .none
  | bl (b : Bool) : RdD h (.bool b) (.bool b)
  | int (i : Int) (t : Tok) : RdD h (.int i t) (.int i)
  | str (x : Str) (t : Tok) : RdD h (.str x t) (.str x)
  | lst {a : Addr} {o : Obj} {vs : Array Value} {n : Nat} {ds : List PyData} (g : h.get? a = some o) (c : o.cls = .type "list") (e : o.data = .seq vs n) (r : RdDs h vs.toList ds) : RdD h (.ref a) (.list ds)
  | tup {a : Addr} {o : Obj} {vs : Array Value} {n : Nat} {ds : List PyData} (g : h.get? a = some o) (c : o.cls = .type "tuple") (e : o.data = .seq vs n) (r : RdDs h vs.toList ds) : RdD h (.ref a) (.tuple ds)
  | dct {a : Addr} {o : Obj} {es : Array DictEntry} {n : Nat} {ps : List (PyData × PyData)} (g : h.get? a = some o) (c : o.cls = .type "dict") (e : o.data = .dict es n) (m : (a == sysModules) = false)
      (rk : RdDs h (es.toList.map (·.key)) (ps.map (·.1))) (rv : RdDs h (es.toList.map (·.val)) (ps.map (·.2))) : RdD h (.ref a) (.dict ps)
inductive RdDs (h : Heap) : List Value → List PyData → Prop
  | nil : RdDs h [] []
  | cons {v : Value} {vs : List Value} {d : PyData} {ds : List PyData} (r : RdD h v d) (rs : RdDs h vs ds) : RdDs h (v :: vs) (d :: ds)
end
mutual
theorem RdD.reads {h : Heap} : ∀ {v : Value} {d : PyData}, RdD h v d → ∃ as, Reads h v d as
  | _, _, .non => ⟨_, .none⟩
  | _, _, .bl b => ⟨_, .bool b⟩
  | _, _, .int i t => ⟨_, .int i t⟩
  | _, _, .str x t => ⟨_, .str x t⟩
  | _, _, .lst g c e r => let ⟨_, q⟩ := r.reads; ⟨_, .list g c e q⟩
  | _, _, .tup g c e r => let ⟨_, q⟩ := r.reads; ⟨_, .tuple g c e q⟩
  | _, _, .dct g c e _ rk rv => let ⟨_, q⟩ := rk.reads; let ⟨_, q2⟩ := rv.reads; ⟨_, .dict g c e q q2⟩
theorem RdDs.reads {h : Heap} : ∀ {v : List Value} {d : List PyData}, RdDs h v d → ∃ as, ReadsAll h v d as
  | _, _, .nil => ⟨_, .nil⟩
  | _, _, .cons r rs => let ⟨_, q⟩ := r.reads; let ⟨_, q2⟩ := rs.reads; ⟨_, .cons q q2⟩
end
theorem kv_keys_le (ps : List (PyData × PyData)) {t : Str} (hz : (dictText (PyData.shownKv ps)).length ≤ sizeLine) (ht : t ∈ PyData.shownAll (ps.map (·.1))) : t.length ≤ sizeLine := by
  obtain ⟨p, hp, hl⟩ := PyData.shownKv_key_le ps t ht
  have := dictText_mem_le hp
  omega
theorem kv_vals_le (ps : List (PyData × PyData)) {t : Str} (hz : (dictText (PyData.shownKv ps)).length ≤ sizeLine) (ht : t ∈ PyData.shownAll (ps.map (·.2))) : t.length ≤ sizeLine := by
  obtain ⟨p, hp, hl⟩ := PyData.shownKv_val_le ps t ht
  have := dictText_mem_le hp
  omega
section
variable {prog : Program} {w : World} {h : Heap}
mutual
theorem RdD.rep : ∀ {v : Value} {d : PyData}, RdD h v d → d.showable = true → d.shown.length ≤ sizeLine → ∃ bs, ReadAtMost h d.depth bs ∧ ReprK prog w bs h d.depth v d.shown
  | _, _, .non, _, _ => ⟨[], (fun _ z => nomatch z), by simp only [PyData.shown]; exact .of_is ReprIs.none _ _ _⟩
  | _, _, .bl b, _, _ => ⟨[], (fun _ z => nomatch z), by simp only [PyData.shown]; exact .of_is (ReprIs.bool b) _ _ _⟩
  | _, _, .int i t, s, _ => ⟨[], (fun _ z => nomatch z), by simp only [PyData.shown]; exact .of_is (ReprIs.int t (by simpa [PyData.showable] using s)) _ _ _⟩
  | _, _, .str x t, _, z => ⟨[], (fun _ z => nomatch z), by simp only [PyData.shown]; exact .of_is (ReprIs.str x t (by simpa only [PyData.shown] using z)) _ _ _⟩
  | _, _, .lst (a := a) (vs := vs) (ds := ds) g c e r, s, z => by
    have z' : (listText (PyData.shownAll ds)).length ≤ sizeLine := by simpa only [PyData.shown] using z
    obtain ⟨bs, hb, hk⟩ := r.rep (by simpa [PyData.showable] using s) fun t ht => Nat.le_trans (listText_mem_le ht) z'
    obtain ⟨as, ra⟩ := r.reads
    have rr : Reads h (.ref a) (.list ds) _ := .list g c e ra
    have na : a ∉ bs := not_mem_of_deeper rr (by simp only [PyData.depth]; omega) hb
    refine ⟨a :: bs, ReadAtMost.cons rr (by simp only [PyData.depth]; omega) hb, ?_⟩
    simp only [PyData.depth, PyData.shown]
    obtain ⟨l⟩ := vs
    match l, r, hk with
    | [], r, _ =>
      cases r
      simp only [PyData.shownAll, listText_nil]
      exact ReprK.listEmpty g c e
    | x :: l, _, hk => exact ReprK.list g c e na (by simpa using hk.length_eq) fun i y q => hk.item i y (by simpa using q)
  | _, _, .tup (a := a) (ds := ds) g c e r, s, z => by
    have z' : (tupleText (PyData.shownAll ds)).length ≤ sizeLine := by simpa only [PyData.shown] using z
    obtain ⟨bs, hb, hk⟩ := r.rep (by simpa [PyData.showable] using s) fun t ht => Nat.le_trans (tupleText_mem_le ht) z'
    obtain ⟨as, ra⟩ := r.reads
    have rr : Reads h (.ref a) (.tuple ds) _ := .tuple g c e ra
    have na : a ∉ bs := not_mem_of_deeper rr (by simp only [PyData.depth]; omega) hb
    refine ⟨a :: bs, ReadAtMost.cons rr (by simp only [PyData.depth]; omega) hb, ?_⟩
    simp only [PyData.depth, PyData.shown]
    exact ReprK.tuple g c e na hk
  | _, _, .dct (a := a) (es := es) (ps := ps) g c e m rk rv, s, z => by
    have z' : (dictText (PyData.shownKv ps)).length ≤ sizeLine := by simpa only [PyData.shown] using z
    obtain ⟨s1, s2⟩ := PyData.showableKv_split ps (by simpa [PyData.showable] using s)
    obtain ⟨b1, hb1, k1⟩ := rk.rep s1 fun t ht => kv_keys_le ps z' ht
    obtain ⟨b2, hb2, k2⟩ := rv.rep s2 fun t ht => kv_vals_le ps z' ht
    obtain ⟨as, ra⟩ := rk.reads
    obtain ⟨as2, ra2⟩ := rv.reads
    have rr : Reads h (.ref a) (.dict ps) _ := .dict g c e ra ra2
    have hb : ReadAtMost h (PyData.depthKv ps) (b1 ++ b2) := (hb1.mono (PyData.depthAll_keys_le ps)).append (hb2.mono (PyData.depthAll_vals_le ps))
    have na : a ∉ b1 ++ b2 := not_mem_of_deeper rr (by simp only [PyData.depth]; omega) hb
    refine ⟨a :: (b1 ++ b2), ReadAtMost.cons rr (by simp only [PyData.depth]; omega) hb, ?_⟩
    simp only [PyData.depth, PyData.shown, PyData.shownKv_eq]
    exact ReprK.dict g c e m na (ReprEntriesK.of_two es.toList _ _ (k1.more_le (fun b q => List.mem_append_left _ q) (PyData.depthAll_keys_le ps)) (k2.more_le (fun b q => List.mem_append_right _ q) (PyData.depthAll_vals_le ps)))
theorem RdDs.rep : ∀ {v : List Value} {d : List PyData}, RdDs h v d → PyData.showableAll d = true → (∀ t ∈ PyData.shownAll d, t.length ≤ sizeLine) → ∃ bs, ReadAtMost h (PyData.depthAll d) bs ∧ ReprAllK prog w bs h (PyData.depthAll d) v (PyData.shownAll d)
  | _, _, .nil, _, _ => ⟨[], (fun _ z => nomatch z), by simp only [PyData.shownAll]; exact .nil⟩
  | _, _, .cons (d := d) (ds := ds) r rs, s, z => by
    have s' : d.showable = true ∧ PyData.showableAll ds = true := by simpa [PyData.showableAll] using s
    obtain ⟨b1, hb1, k1⟩ := r.rep s'.1 (z _ (by simp only [PyData.shownAll]; exact List.mem_cons_self))
    obtain ⟨b2, hb2, k2⟩ := rs.rep s'.2 fun t ht => z t (by simp only [PyData.shownAll]; exact List.mem_cons_of_mem _ ht)
    refine ⟨b1 ++ b2, (hb1.mono ?_).append (hb2.mono ?_), ?_⟩
    · simp only [PyData.depthAll]
      exact Nat.le_max_left _ _
    · simp only [PyData.depthAll]
      exact Nat.le_max_right _ _
    · simp only [PyData.depthAll, PyData.shownAll]
      exact .cons ((k1.more fun b q => List.mem_append_left _ q).level_le (Nat.le_max_left _ _)) (k2.more_le (fun b q => List.mem_append_right _ q) (Nat.le_max_right _ _))
end
theorem RdD.shows {a : Addr} : ∀ {d : PyData}, RdD h (.ref a) d → d.showable = true → d.shown.length ≤ sizeLine → ∃ T idr, ShowsBy prog w h a d T idr
  | _, .lst (vs := vs) (ds := ds) g c e r, sh, z => by
    have z' : (listText (PyData.shownAll ds)).length ≤ sizeLine := by simpa only [PyData.shown] using z
    obtain ⟨bs, hb, hk⟩ := r.rep (prog := prog) (w := w) (by simpa [PyData.showable] using sh) fun t ht => Nat.le_trans (listText_mem_le ht) z'
    obtain ⟨as, ra⟩ := r.reads
    have na : a ∉ bs := not_mem_of_deeper (.list g c e ra) (by simp only [PyData.depth]; omega) hb
    refine ⟨"list", "list.__repr__", F.slot_list_repr.toG, F.slot_list_str, F.slot_list_format, fun s k => ⟨_, k _ _ g, c⟩, fun A E s Q hg hu k hQ => ?_⟩
    simp only [PyData.depth] at hu
    simp only [PyData.shown] at hQ
    obtain ⟨l⟩ := vs
    match l, r, hk with
    | [], r, _ =>
      cases r
      simp only [PyData.shownAll, listText_nil] at hQ
      exact call_list_repr_empty ⟨_, k _ _ g, c⟩ (k _ _ g) e (hQ s.heap _ _ fun _ _ q => q)
    | x :: l, _, hk => exact call_list_reprK g c e na (by simpa using hk.length_eq) (fun i y q => hk.item i y (by simpa using q)) hg (fun b _ => Clear.nil b) hu k hQ z'
  | _, .tup (ds := ds) g c e r, sh, z => by
    have z' : (tupleText (PyData.shownAll ds)).length ≤ sizeLine := by simpa only [PyData.shown] using z
    obtain ⟨bs, hb, hk⟩ := r.rep (prog := prog) (w := w) (by simpa [PyData.showable] using sh) fun t ht => Nat.le_trans (tupleText_mem_le ht) z'
    obtain ⟨as, ra⟩ := r.reads
    have na : a ∉ bs := not_mem_of_deeper (.tuple g c e ra) (by simp only [PyData.depth]; omega) hb
    refine ⟨"tuple", "tuple.__repr__", F.slot_tuple_repr, F.slot_tuple_str, F.slot_tuple_format, fun s k => ⟨_, k _ _ g, c⟩, fun A E s Q hg hu k hQ => ?_⟩
    simp only [PyData.depth] at hu
    simp only [PyData.shown] at hQ
    exact call_tuple_reprK g c e na hk hg (fun b _ => Clear.nil b) hu k hQ z'
  | _, .dct (es := es) (ps := ps) g c e m rk rv, sh, z => by
    have z' : (dictText (PyData.shownKv ps)).length ≤ sizeLine := by simpa only [PyData.shown] using z
    obtain ⟨s1, s2⟩ := PyData.showableKv_split ps (by simpa [PyData.showable] using sh)
    obtain ⟨b1, hb1, k1⟩ := rk.rep (prog := prog) (w := w) s1 fun t ht => kv_keys_le ps z' ht
    obtain ⟨b2, hb2, k2⟩ := rv.rep (prog := prog) (w := w) s2 fun t ht => kv_vals_le ps z' ht
    obtain ⟨as, ra⟩ := rk.reads
    obtain ⟨as2, ra2⟩ := rv.reads
    have hb : ReadAtMost h (PyData.depthKv ps) (b1 ++ b2) := (hb1.mono (PyData.depthAll_keys_le ps)).append (hb2.mono (PyData.depthAll_vals_le ps))
    have na : a ∉ b1 ++ b2 := not_mem_of_deeper (.dict g c e ra ra2) (by simp only [PyData.depth]; omega) hb
    refine ⟨"dict", "dict.__repr__", F.slot_dict_repr, F.slot_dict_str, F.slot_dict_format, fun s k => ⟨_, k _ _ g, c⟩, fun A E s Q hg hu k hQ => ?_⟩
    simp only [PyData.depth] at hu
    simp only [PyData.shown, PyData.shownKv_eq] at hQ
    exact call_dict_reprK g c e m na (ReprEntriesK.of_two es.toList _ _ (k1.more_le (fun b q => List.mem_append_left _ q) (PyData.depthAll_keys_le ps)) (k2.more_le (fun b q => List.mem_append_right _ q) (PyData.depthAll_vals_le ps))) hg (fun b _ => Clear.nil b) hu k hQ (by rw [← PyData.shownKv_eq]; exact z')
theorem RdD.repr_call {a : Addr} {d : PyData} {A : Around} {E : Value → Shared → Prop} {s : Shared} {Q : Value → Shared → Prop} (r : RdD h (.ref a) d) (hs : d.showable = true) (hg : A.guards = some []) (hu : A.units + (d.depth + 1) < cLine) (k : ∀ b o, h.get? b = some o → s.heap.get? b = some o)
    (hQ : ∀ h' u tk, (∀ b o, s.heap.get? b = some o → h'.get? b = some o) → Q (.str d.shown u) { s with heap := h', toks := tk }) (z : d.shown.length ≤ sizeLine) : wpAny (model prog w) A (call (.builtin "repr") [.ref a]) Q E s := by
  obtain ⟨T, idr, S⟩ := r.shows (prog := prog) (w := w) hs z
  exact call_repr_slot (by omega) (S.typeIs s k) S.slotRepr (S.call A.in1 E s _ hg (by show A.units + 1 + d.depth < cLine; omega) k fun h' u tk q => ⟨_, _, rfl, hQ h' u tk q⟩)
end
end L3
namespace L3
open PySem L2
/-! ### data read in full -/
/-- a list of the store, read as a value -/
def res (M : Mp) : D → D
  | .tok a => match M a with
    | some (.lst ds) => .lst ds
    | some (.dic _ kd) => .dct (kd.map (·.1)) (kd.map (·.2))
    | _ => .tok a
  | d => d
theorem zip_fs {α β : Type} : ∀ l : List (α × β), (l.map (·.1)).zip (l.map (·.2)) = l
  | [] => rfl
  | p :: l => by rw [List.map_cons, List.map_cons, List.zip_cons_cons, zip_fs l]
theorem res_rep {K : PySem.W.Frag} {Z : Hp} {H : Hp} {M : Mp} {v : V} : ∀ {d : D}, Sat K Z H M → Rep K (fz Z H M) v d → Rep K H v (res M d)
  | .non, _, r => r.up fz_sub
  | .bl _, _, r => r.up fz_sub
  | .int _, _, r => r.up fz_sub
  | .str _, _, r => r.up fz_sub
  | .ty _, _, r => r.up fz_sub
  | .tup _, _, r => r.up fz_sub
  | .lst _, _, r => r.up fz_sub
  | .exc _ _ _ _ _, _, r => r.up fz_sub
  | .tpl _, _, r => r.up fz_sub
  | .dct _ _, _, r => r.up fz_sub
  | .tok a, S, r => by
    cases r
    show Rep K H (.ref a) (match M a with | some (.lst ds) => .lst ds | some (.dic _ kd) => .dct (kd.map (·.1)) (kd.map (·.2)) | _ => .tok a)
    cases q : M a with
    | none => exact .tok a
    | some c =>
      cases c with
      | lst ds =>
        obtain ⟨vs, e, rl⟩ := S.cell a _ q
        exact .lst (.inl (.inl e)) (rl.up fz_sub)
      | aux => exact .tok a
      | drw _ => exact .tok a
      | tab _ _ => exact .tok a
      | box => exact .tok a
      | err _ _ => exact .tok a
      | ins _ _ => exact .tok a
      | dic lk kd =>
        obtain ⟨kv, u, e, l, e1, e2⟩ := S.cell a _ q
        refine .dct (vs := kv.map (·.2)) ?_ (by rw [← e1, List.length_map, List.length_map]) (e2.up fz_sub)
        rw [← e1, zip_fs]
        cases lk with
        | none =>
          cases l
          exact .inl e
        | some o =>
          rw [l.2] at e
          exact .inr ⟨_, e⟩
/-- the items of a list, a tuple -/
def seqD (M : Mp) : D → Option (List D)
  | .tup ds => some ds
  | .lst ds => some ds
  | .tpl ds => some ds
  | .tok a => match M a with
    | some (.lst ds) => some ds
    | _ => none
  | _ => none
theorem seq_of {K : PySem.W.Frag} {Z : Hp} {H : Hp} {M : Mp} {v : V} : ∀ {d : D} {ds : List D}, Sat K Z H M → Rep K (fz Z H M) v d → seqD M d = some ds → ∃ a vs, v = .ref a ∧ (SqL K H a vs ∨ SqT K H a vs) ∧ RepL K (fz Z H M) vs ds
  | .non, _, _, _, e => by cases e
  | .bl _, _, _, _, e => by cases e
  | .int _, _, _, _, e => by cases e
  | .str _, _, _, _, e => by cases e
  | .ty _, _, _, _, e => by cases e
  | .exc _ _ _ _ _, _, _, _, e => by cases e
  | .tpl es, ds, S, r, e => by
    obtain rfl : es = ds := Option.some.inj e
    cases r with
    | tpl hs hd ha => exact ⟨_, _, rfl, .inr (.inl (.inr ⟨_, fz_sub _ _ hs⟩)), ha⟩
  | .dct _ _, _, _, _, e => by cases e
  | .tup es, ds, S, r, e => by
    obtain rfl : es = ds := Option.some.inj e
    cases r with
    | tup hs ha => exact ⟨_, _, rfl, .inr (sqt_mono fz_sub hs), ha⟩
  | .lst es, ds, S, r, e => by
    obtain rfl : es = ds := Option.some.inj e
    cases r with
    | lst hs ha => exact ⟨_, _, rfl, .inl (fz_sub.seq hs), ha⟩
  | .tok a, ds, S, r, e => by
    cases r
    have e' : (match M a with | some (.lst ds) => some ds | _ => none) = some ds := e
    cases q : M a with
    | none =>
      rw [q] at e'
      cases e'
    | some c =>
      rw [q] at e'
      cases c with
      | lst es =>
        obtain rfl : es = ds := Option.some.inj e'
        obtain ⟨vs, e1, rl⟩ := S.cell a _ q
        exact ⟨_, _, rfl, .inl (.inl (.inl e1)), rl⟩
      | aux => cases e'
      | drw _ => cases e'
      | tab _ _ => cases e'
      | box => cases e'
      | err _ _ => cases e'
      | ins _ _ => cases e'
      | dic _ _ => cases e'
/-! ### plain data: equality, texts -/
def keyPy : Key → PyData
  | .inl i => .int i
  | .inr x => .str x
mutual
def D.py : D → PyData
  | .non => .none
  | .bl b => .bool b
  | .int i => .int i
  | .str x => .str x
  | .ty _ => .none
  | .tok _ => .none
  | .exc _ _ _ _ _ => .none
  | .tpl _ => .none
  | .dct ks ds => .dict ((ks.map keyPy).zip (pyL ds))
  | .tup ds => .tuple (pyL ds)
  | .lst ds => .list (pyL ds)
def pyL : List D → List PyData
  | [] => []
  | d :: ds => d.py :: pyL ds
end
/-- data without objects, so deep at most -/
def fit : Nat → D → Prop
  | _, .non => True
  | _, .bl _ => True
  | _, .int _ => True
  | _, .str x => PySem.PyData.strOk x = true
  | _, .ty _ => False
  | _, .tok _ => False
  | _, .exc _ _ _ _ _ => False
  | _, .tpl _ => False
  | _, .dct _ _ => False
  | 0, .tup _ => False
  | 0, .lst _ => False
  | n + 1, .tup ds => ∀ d ∈ ds, fit n d
  | n + 1, .lst ds => ∀ d ∈ ds, fit n d
mutual
theorem Rep.dp {K : PySem.W.Frag} {H : Hp} : ∀ (n : Nat) (d : D) (v : V), fit n d → Rep K H v d → Dp K H v d.py
  | _, .non, _, _, r => by cases r; exact .non
  | _, .bl b, _, _, r => by cases r; exact .bl b
  | _, .int i, _, _, r => by cases r; exact .int i
  | _, .str x, _, _, r => by cases r; exact .str x
  | _, .ty _, _, f, _ => by simp [fit] at f
  | _, .tok _, _, f, _ => by simp [fit] at f
  | _, .exc _ _ _ _ _, _, f, _ => by simp [fit] at f
  | _, .tpl _, _, f, _ => by simp [fit] at f
  | _, .dct _ _, _, f, _ => by simp [fit] at f
  | 0, .tup _, _, f, _ => by cases f
  | 0, .lst _, _, f, _ => by cases f
  | n + 1, .tup ds, _, f, r => by
    cases r with
    | tup hs ha => exact .tup hs (RepL.dp n ds _ f ha)
  | n + 1, .lst ds, _, f, r => by
    cases r with
    | lst hs ha => exact .lst hs (RepL.dp n ds _ f ha)
theorem RepL.dp {K : PySem.W.Frag} {H : Hp} : ∀ (n : Nat) (ds : List D) (vs : List V), (∀ d ∈ ds, fit n d) → RepL K H vs ds → DpAll K H vs (pyL ds)
  | _, [], _, _, r => by cases r; exact .nil
  | n, d :: ds, _, f, r => by
    cases r with
    | cons r1 r2 => exact .cons (Rep.dp n d _ (f d List.mem_cons_self) r1) (RepL.dp n ds _ (fun x hx => f x (List.mem_cons_of_mem _ hx)) r2)
end
mutual
theorem fit_lay : ∀ (n : Nat) (d : D), fit n d → d.py.canLay0 = true ∧ d.py.depth ≤ n
  | _, .non, _ => ⟨by simp [D.py, PyData.canLay0], by simp [D.py, PyData.depth]⟩
  | _, .bl b, _ => ⟨by simp [D.py, PyData.canLay0], by simp [D.py, PyData.depth]⟩
  | _, .int i, _ => ⟨by simp [D.py, PyData.canLay0], by simp [D.py, PyData.depth]⟩
  | _, .str x, f => by
    have f' : PySem.PyData.strOk x = true := by simpa [fit] using f
    exact ⟨by simp [D.py, PyData.canLay0, f'], by simp [D.py, PyData.depth]⟩
  | _, .ty _, f => by simp [fit] at f
  | _, .tok _, f => by simp [fit] at f
  | _, .exc _ _ _ _ _, f => by simp [fit] at f
  | _, .tpl _, f => by simp [fit] at f
  | _, .dct _ _, f => by simp [fit] at f
  | 0, .tup _, f => by cases f
  | 0, .lst _, f => by cases f
  | n + 1, .tup ds, f => by
    have q := fit_layL n ds f
    exact ⟨by simp [D.py, PyData.canLay0, q.1], by simp only [D.py, PyData.depth]; omega⟩
  | n + 1, .lst ds, f => by
    have q := fit_layL n ds f
    exact ⟨by simp [D.py, PyData.canLay0, q.1], by simp only [D.py, PyData.depth]; omega⟩
theorem fit_layL : ∀ (n : Nat) (ds : List D), (∀ d ∈ ds, fit n d) → PyData.canLayAll0 (pyL ds) = true ∧ PyData.depthAll (pyL ds) ≤ n
  | _, [], _ => ⟨by simp [pyL, PyData.canLayAll0], by simp [pyL, PyData.depthAll]⟩
  | n, d :: ds, f => by
    have q1 := fit_lay n d (f d List.mem_cons_self)
    have q2 := fit_layL n ds fun x hx => f x (List.mem_cons_of_mem _ hx)
    exact ⟨by simp [pyL, PyData.canLayAll0, q1.1, q2.1], by simp only [pyL, PyData.depthAll]; omega⟩
end
theorem fit_shaped {n : Nat} {d : D} (f : fit n d) (h : n ≤ 64) : SeqAt.shaped d.py = true := by
  have q := fit_lay n d f
  unfold SeqAt.shaped
  rw [q.1, Bool.true_and]
  exact decide_eq_true (by omega)
def eqD (d e : D) : Bool := PyData.eqv d.py e.py
def shown (d : D) : Str := d.py.shown
/-! how long its text is at most -/
mutual
def cost : D → Nat
  | .non => 5
  | .bl _ => 5
  | .int _ => 210
  | .str x => 10 * x.length + 4
  | .ty _ => 5
  | .tok _ => 5
  | .exc _ _ _ _ _ => 5
  | .tpl _ => 5
  | .dct ks ds => (D.py (.dct ks ds)).shown.length
  | .tup ds => costL ds + 4
  | .lst ds => costL ds + 4
def costL : List D → Nat
  | [] => 0
  | d :: ds => cost d + 2 + costL ds
end
/-- data that can be shown -/
def shw : Nat → D → Prop
  | _, .non => True
  | _, .bl _ => True
  | _, .int i => i.natAbs < 2 ^ 200
  | _, .str x => PySem.PyData.strOk x = true
  | _, .ty _ => False
  | _, .tok _ => False
  | _, .exc _ _ _ _ _ => False
  | _, .tpl _ => False
  | 0, .dct _ _ => False
  | 0, .tup _ => False
  | 0, .lst _ => False
  | n + 1, .tup ds => ∀ d ∈ ds, shw n d
  | n + 1, .lst ds => ∀ d ∈ ds, shw n d
  | n + 1, .dct ks ds => (ks.length = ds.length ∧ ∀ k ∈ ks, (keyPy k).showable = true) ∧ ∀ d ∈ ds, shw n d
theorem log200 {n : Nat} (h : n < 2 ^ 200) : n.log2 < 200 := by
  by_cases h0 : n = 0
  · subst h0
    decide
  · exact (Nat.log2_lt h0).mpr h
theorem showableKv_zip : ∀ (ks : List Key) (ps : List PyData), (∀ k ∈ ks, (keyPy k).showable = true) → PyData.showableAll ps = true → PyData.showableKv ((ks.map keyPy).zip ps) = true
  | [], _, _, _ => by simp [PyData.showableKv]
  | _ :: _, [], _, _ => by simp [PyData.showableKv]
  | k :: ks, p :: ps, hk, hp => by
    have h2 : p.showable = true ∧ PyData.showableAll ps = true := by simpa [PyData.showableAll] using hp
    rw [List.map_cons, List.zip_cons_cons]
    simp [PyData.showableKv, hk k List.mem_cons_self, h2.1, showableKv_zip ks ps (fun x hx => hk x (List.mem_cons_of_mem _ hx)) h2.2]
theorem keyPy_depth (k : Key) : (keyPy k).depth = 0 := by cases k <;> simp [keyPy, PyData.depth]
theorem depthKv_zip (n : Nat) : ∀ (ks : List Key) (ps : List PyData), PyData.depthAll ps ≤ n → PyData.depthKv ((ks.map keyPy).zip ps) ≤ n
  | [], _, _ => by simp [PyData.depthKv]
  | _ :: _, [], _ => by simp [PyData.depthKv]
  | k :: ks, p :: ps, h => by
    have h1 : p.depth ≤ n ∧ PyData.depthAll ps ≤ n := by
      simp only [PyData.depthAll] at h
      omega
    have ih := depthKv_zip n ks ps h1.2
    rw [List.map_cons, List.zip_cons_cons]
    simp only [PyData.depthKv, keyPy_depth]
    omega
mutual
theorem shw_show : ∀ (n : Nat) (d : D), shw n d → d.py.showable = true ∧ d.py.depth ≤ n
  | _, .non, _ => ⟨by simp [D.py, PyData.showable], by simp [D.py, PyData.depth]⟩
  | _, .bl b, _ => ⟨by simp [D.py, PyData.showable], by simp [D.py, PyData.depth]⟩
  | _, .int i, f => by
    have f' : i.natAbs < 2 ^ 200 := by simpa only [shw] using f
    have q := log200 f'
    exact ⟨by simp only [D.py, PyData.showable]; exact decide_eq_true (by omega), by simp [D.py, PyData.depth]⟩
  | _, .str x, f => ⟨by simp [D.py, PyData.showable], by simp [D.py, PyData.depth]⟩
  | _, .ty _, f => by simp [shw] at f
  | _, .tok _, f => by simp [shw] at f
  | _, .exc _ _ _ _ _, f => by simp [shw] at f
  | _, .tpl _, f => by simp [shw] at f
  | 0, .dct _ _, f => by cases f
  | 0, .tup _, f => by cases f
  | 0, .lst _, f => by cases f
  | n + 1, .tup ds, f => by
    have q := shw_showL n ds f
    exact ⟨by simp [D.py, PyData.showable, q.1], by simp only [D.py, PyData.depth]; omega⟩
  | n + 1, .lst ds, f => by
    have q := shw_showL n ds f
    exact ⟨by simp [D.py, PyData.showable, q.1], by simp only [D.py, PyData.depth]; omega⟩
  | n + 1, .dct ks ds, f => by
    have q := shw_showL n ds f.2
    have q2 := depthKv_zip n ks (pyL ds) q.2
    exact ⟨by simp only [D.py, PyData.showable]; exact showableKv_zip ks _ f.1.2 q.1, by simp only [D.py, PyData.depth]; omega⟩
theorem shw_showL : ∀ (n : Nat) (ds : List D), (∀ d ∈ ds, shw n d) → PyData.showableAll (pyL ds) = true ∧ PyData.depthAll (pyL ds) ≤ n
  | _, [], _ => ⟨by simp [pyL, PyData.showableAll], by simp [pyL, PyData.depthAll]⟩
  | n, d :: ds, f => by
    have q1 := shw_show n d (f d List.mem_cons_self)
    have q2 := shw_showL n ds fun x hx => f x (List.mem_cons_of_mem _ hx)
    exact ⟨by simp [pyL, PyData.showableAll, q1.1, q2.1], by simp only [pyL, PyData.depthAll]; omega⟩
end
theorem pyL_len : ∀ ds : List D, (pyL ds).length = ds.length
  | [] => rfl
  | d :: ds => by rw [pyL, List.length_cons, List.length_cons, pyL_len ds]
theorem pairs_rdd {h : Heap} {P : Program} {w : World} : ∀ {kvs : List (Key × V)} {vs : List (Key × Value)} {es : List DictEntry}, KV kvs vs → Pairs (mixKind P w) es vs → RdDs h (es.map (·.key)) ((kvs.map (·.1)).map keyPy) ∧ Vals (kvs.map (·.2)) (es.map (·.val))
  | _, _, _, .nil, .nil => ⟨.nil, .nil⟩
  | _, _, _, .cons (a := a) (b := b) h t, .cons (e := e) e1 e2 ps => by
    obtain ⟨q1, q2⟩ := pairs_rdd t ps
    refine ⟨.cons ?_ q1, .cons ?_ q2⟩
    · have z : keyIs b.1 e.key = true := e1
      rw [← h.1] at z
      show RdD _ e.key (keyPy a.1)
      rcases keyIs_shape z with ⟨i, t, hk, hv⟩ | ⟨x, t, hk, hv⟩
      · rw [hk, hv]
        exact .int i t
      · rw [hk, hv]
        exact .str x t
    · show RelV a.2 e.val
      rw [e2]
      exact h.2
mutual
theorem Rep.rdd {X : Cx} {pins : List (Addr × Obj)} {σ : L2.St} {H : Hp} {s : Shared} (I : Inv X pins σ H s) : ∀ (n : Nat) (d : D) (v : V) (u : Value), shw n d → Rep X.K H v d → RelV v u → RdD s.heap u d.py
  | _, .non, _, _, _, r, ru => by
    cases r
    cases ru
    exact .non
  | _, .bl b, _, _, _, r, ru => by
    cases r
    cases ru
    exact .bl b
  | _, .int i, _, _, _, r, ru => by
    cases r
    obtain ⟨t, rfl⟩ := ru
    exact .int i t
  | _, .str x, _, _, _, r, ru => by
    cases r
    obtain ⟨t, rfl⟩ := ru
    exact .str x t
  | _, .ty _, _, _, f, _, _ => by simp [shw] at f
  | _, .tok _, _, _, f, _, _ => by simp [shw] at f
  | _, .exc _ _ _ _ _, _, _, f, _, _ => by simp [shw] at f
  | _, .tpl _, _, _, f, _, _ => by simp [shw] at f
  | 0, .dct _ _, _, _, f, _, _ => by cases f
  | 0, .tup _, _, _, f, _, _ => by cases f
  | 0, .lst _, _, _, f, _, _ => by cases f
  | n + 1, .tup ds, _, _, f, r, ru => by
    cases r with
    | tup hs ha =>
      cases ru
      obtain ⟨its, rv, ⟨o, ho, hc, m, hd⟩, _⟩ := I.tuple hs
      exact .tup ho hc hd (RepL.rdd I n ds _ _ f ha rv)
  | n + 1, .lst ds, _, _, f, r, ru => by
    cases r with
    | lst hs ha =>
      cases ru
      obtain ⟨its, rv, ⟨o, m, ho, hc, _, hd⟩, _⟩ := I.list hs
      exact .lst ho hc hd (RepL.rdd I n ds _ _ f ha rv)
  | n + 1, .dct ks ds, _, _, f, r, ru => by
    cases r with
    | @dct _ _ vs0 _ hs hl ha =>
      cases ru
      obtain ⟨_, hm, vs, kv, o, es, ep, h1, h2, h3, _, h5, _⟩ := dk_rd I.hok hs
      obtain ⟨q1, q2⟩ := pairs_rdd (h := s.heap) kv h5
      have e1 : (ks.zip vs0).map (·.1) = ks := List.map_fst_zip (Nat.le_of_eq hl)
      have e2 : (ks.zip vs0).map (·.2) = vs0 := List.map_snd_zip (Nat.le_of_eq hl.symm)
      rw [e1] at q1
      rw [e2] at q2
      have q3 := RepL.rdd I n ds _ _ f.2 ha q2
      have l1 : (ks.map keyPy).length = (pyL ds).length := by
        rw [List.length_map, f.1.1, pyL_len]
      show RdD s.heap _ (.dict ((ks.map keyPy).zip (pyL ds)))
      exact .dct h1 h2.1 h3 hm (by rw [List.map_fst_zip (Nat.le_of_eq l1)]; exact q1) (by rw [List.map_snd_zip (Nat.le_of_eq l1.symm)]; exact q3)
theorem RepL.rdd {X : Cx} {pins : List (Addr × Obj)} {σ : L2.St} {H : Hp} {s : Shared} (I : Inv X pins σ H s) : ∀ (n : Nat) (ds : List D) (vs : List V) (us : List Value), (∀ d ∈ ds, shw n d) → RepL X.K H vs ds → Vals vs us → RdDs s.heap us (pyL ds)
  | _, [], _, _, _, r, ru => by
    cases r
    cases ru
    exact .nil
  | n, d :: ds, _, _, f, r, ru => by
    cases r with
    | cons r1 r2 =>
      cases ru with
      | cons u1 u2 => exact .cons (Rep.rdd I n d _ _ (f d List.mem_cons_self) r1 u1) (RepL.rdd I n ds _ _ (fun x hx => f x (List.mem_cons_of_mem _ hx)) r2 u2)
end
theorem shownAll_len : ∀ ds : List PyData, (PyData.shownAll ds).length = ds.length
  | [] => rfl
  | d :: ds => by rw [PyData.shownAll, List.length_cons, List.length_cons, shownAll_len ds]
mutual
theorem shw_cost : ∀ (n : Nat) (d : D), shw n d → d.py.shown.length ≤ cost d
  | _, .non, _ => by decide
  | _, .bl b, _ => by cases b <;> decide
  | _, .int i, f => by
    have f' : i.natAbs < 2 ^ 200 := by simpa only [shw] using f
    have q := PySem.int_text_length_le (a := i) (k := 200) (by decide) (log200 f')
    have e : (D.int i).py.shown.length = (toString i).length := by
      show (Str.ofString (toString i)).length = _
      rw [PySem.ofString_length]
    rw [e]
    show _ ≤ 210
    omega
  | _, .str x, f => by
    have f' : PySem.PyData.strOk x = true := by simpa only [shw] using f
    have h : ∀ c ∈ x.cps.toList, c < 16 ^ 8 := fun c hc => by
      have z := (Array.all_eq_true'.mp f') c (by simpa using hc)
      have z' : c < 0x110000 := by simpa using z
      exact Nat.lt_trans z' (by decide)
    have q := PySem.StrLaws.reprText_len x h
    show (reprText x).length ≤ 10 * x.length + 4
    omega
  | _, .ty _, f => by simp [shw] at f
  | _, .tok _, f => by simp [shw] at f
  | _, .exc _ _ _ _ _, f => by simp [shw] at f
  | _, .tpl _, f => by simp [shw] at f
  | _, .dct _ _, f => Nat.le_refl _
  | 0, .tup _, f => by cases f
  | 0, .lst _, f => by cases f
  | n + 1, .tup ds, f => by
    have q := shw_costL n ds f
    have z := PySem.tupleText_len_le (PyData.shownAll (pyL ds))
    rw [shownAll_len, pyL_len] at z
    show (tupleText (PyData.shownAll (pyL ds))).length ≤ costL ds + 4
    omega
  | n + 1, .lst ds, f => by
    have q := shw_costL n ds f
    have z := PySem.listText_len_le (PyData.shownAll (pyL ds))
    rw [shownAll_len, pyL_len] at z
    show (listText (PyData.shownAll (pyL ds))).length ≤ costL ds + 4
    omega
theorem shw_costL : ∀ (n : Nat) (ds : List D), (∀ d ∈ ds, shw n d) → ((PyData.shownAll (pyL ds)).map (·.length)).sum + 2 * ds.length ≤ costL ds
  | _, [], _ => Nat.le_refl _
  | n, d :: ds, f => by
    have q1 := shw_cost n d (f d List.mem_cons_self)
    have q2 := shw_costL n ds fun x hx => f x (List.mem_cons_of_mem _ hx)
    simp only [pyL, PyData.shownAll, List.map_cons, List.sum_cons, List.length_cons, costL]
    omega
end
/-- repr(x), by data -/
theorem call_repr_any {X : Cx} {k : Nat} (hr : Room k X.A) (gd : X.A.guards = some []) : CallR X (.builtin "repr") (fun xs H Q => ∃ (x : V) (d : D) (n : Nat), xs = [x] ∧ Rep X.K H x d ∧ shw n d ∧ n ≤ 60 ∧ cost d ≤ 16000000 ∧ Q (.str (shown d)) H) := by
  intro pins s σ H vs us Q I r h
  obtain ⟨x, d, n, rfl, rp, sh, hn, hc, q⟩ := h
  obtain ⟨u, rfl, ru⟩ := vals1 r
  have hs := shw_show n d sh
  have hl := shw_cost n d sh
  have hz : d.py.shown.length ≤ sizeLine := by
    rw [sizeLine_eq]
    omega
  have hd := hs.2
  have hu := hr.units
  have rd := Rep.rdd I n d x u sh rp ru
  cases d with
  | non =>
    cases rp
    cases ru
    exact P.repr_of_none ⟨.str _, H, I.tok _, ⟨_, rfl⟩, q⟩
  | bl b =>
    cases rp
    cases ru
    refine P.repr_of_bool ⟨.str _, H, I.tok _, ⟨_, rfl⟩, ?_⟩
    have e : (if b = true then Str.ofString "True" else Str.ofString "False") = shown (.bl b) := by cases b <;> rfl
    rw [e]
    exact q
  | int i =>
    cases rp
    obtain ⟨t, rfl⟩ := ru
    have sh' : i.natAbs < 2 ^ 200 := by simpa only [shw] using sh
    have q3 := log200 sh'
    exact P.repr_of_int (by omega) ⟨.str _, H, I.tok _, ⟨_, rfl⟩, q⟩
  | str y =>
    cases rp
    obtain ⟨t, rfl⟩ := ru
    exact P.repr_of_str ⟨.str _, H, I.tok _, ⟨_, rfl⟩, q⟩ hz
  | ty _ => simp [shw] at sh
  | tok _ => simp [shw] at sh
  | exc _ _ _ _ _ => simp [shw] at sh
  | tpl _ => simp [shw] at sh
  | dct ks ds =>
    cases rp
    cases ru
    exact rd.repr_call hs.1 gd (by omega) (fun _ _ e => e) (fun h' u' tk hk => ⟨.str _, H, I.kept hk, ⟨_, rfl⟩, q⟩) hz
  | tup ds =>
    cases rp
    cases ru
    exact rd.repr_call hs.1 gd (by omega) (fun _ _ e => e) (fun h' u' tk hk => ⟨.str _, H, I.kept hk, ⟨_, rfl⟩, q⟩) hz
  | lst ds =>
    cases rp
    cases ru
    exact rd.repr_call hs.1 gd (by omega) (fun _ _ e => e) (fun h' u' tk hk => ⟨.str _, H, I.kept hk, ⟨_, rfl⟩, q⟩) hz
end L3
namespace L3
open PySem L2
section
variable {X : Cx} {E : XK} {e a b c : Expr} {es : List Expr} {t ta tb tc te : TE} {w wa wb wc we : WE} {pos : Pos} {k : Nat}
/-! ### names, constants -/
def wVar (i : Nat) : WE := fun ρ M Q => match ρ[i]? with
  | some (some d) => Q d M
  | _ => False
theorem sim_var {K : PySem.W.Frag} (i : Nat) : SimE K (tVar i) (wVar i) := by
  intro Z ρ M σ H Q Q' r h q
  unfold wVar at h
  split at h
  · rename_i d e
    obtain ⟨v, e1, rp⟩ := r.env.2 i d e
    exact ⟨v, e1, q v d H M r.refl rp h⟩
  · exact h.elim
theorem de_var (i : Nat) {x : Str} (hN : X.N[i]? = some x := by rfl) (hv : Vis X.env.scope x := by first | exact Or.inl rfl | exact Or.inr (Or.inl rfl) | exact Or.inr (Or.inr rfl)) (hd : (x == ("__debug__" : Str)) = false := by decide)
    (hcd : (x == ("__classdict__" : Str)) = false := by decide) : DE X (.Name x pos) (tVar i) (wVar i) := ⟨pe_var hN hv hd hcd, sim_var i⟩
def wC (d : D) : WE := fun _ M Q => Q d M
theorem sim_c {K : PySem.W.Frag} {v : V} {d : D} (h : ∀ H, Rep K H v d) : SimE K (tC v) (wC d) := fun _ _ M _ H _ _ r q z => z v d H M r.refl (h _) q
theorem de_int {i j} : DE X (.Constant (.int i) j pos) (tC (.int i)) (wC (.int i)) := ⟨pe_int, sim_c fun _ => .int i⟩
theorem de_bl {i j} : DE X (.Constant (.bool i) j pos) (tC (.bl i)) (wC (.bl i)) := ⟨pe_bl, sim_c fun _ => .bl i⟩
theorem de_non {j} : DE X (.Constant .none j pos) (tC .non) (wC .non) := ⟨pe_non, sim_c fun _ => .non⟩
theorem de_str {x j} : DE X (.Constant (.str x) j pos) (tC (.str x)) (wC (.str x)) := ⟨pe_str, sim_c fun _ => .str x⟩
/-- a name of the module that holds a value (a constant) -/
theorem de_glob {x : Str} {v : V} {d : D} {u : Value} (hg : Gl X x) (hm : X.mg x = some u) (r : RelV v u) (h : ∀ H, Rep X.K H v d) (hd : (x == ("__debug__" : Str)) = false := by decide) : DE X (.Name x pos) (tC v) (wC d) := ⟨pe_glob hg hm r hd, sim_c h⟩
/-! ### two values -/
abbrev F2 := D → D → Mp → KD → Prop
def SimR (K : PySem.W.Frag) (r : R2) (f : F2) : Prop := ∀ (Z : Hp) (x y : V) (d e : D) (H : Hp) (M : Mp) (Q : KD) (Q' : VK), Sat K Z H M → Rep K (fz Z H M) x d → Rep K (fz Z H M) y e → f d e M Q → (∀ v d' H' M', Go K Z H M H' M' → Rep K (fz Z H' M') v d' → Q d' M' → Q' v H') → r x y H Q'
def wOp (f : F2) (wa wb : WE) : WE := fun ρ M Q => wa ρ M fun d M1 => wb ρ M1 fun e M2 => f d e M2 Q
theorem sim_op {K : PySem.W.Frag} {r : R2} {f : F2} (ha : SimE K ta wa) (hb : SimE K tb wb) (hr : SimR K r f) : SimE K (tOp r ta tb) (wOp f wa wb) := by
  intro Z ρ M σ H Q Q' s h q
  refine ha Z ρ M σ H _ _ s h fun x d H1 M1 g1 r1 q1 => ?_
  refine hb Z ρ M1 σ H1 _ _ (s.go g1) q1 fun y e H2 M2 g2 r2 q2 => ?_
  exact hr Z x y d e H2 M2 Q Q' g2.sat (r1.up g2.ex) r2 q2 fun v d' H3 M3 g3 r3 q3 => q v d' H3 M3 ((g1.trans g2).trans g3) r3 q3
theorem de_op {op : Operator} {r : R2} {f : F2} (ho : OpR X (binaryOp op) r) (hs : SimR X.K r f) (ha : DE X a ta wa) (hb : DE X b tb wb) : DE X (.BinOp a op b pos) (tOp r ta tb) (wOp f wa wb) := ⟨pe_op ho ha.pe hb.pe, sim_op ha.sm hb.sm hs⟩
theorem de_cmp {op : CmpOp} {r : R2} {f : F2} (ho : OpR X (compareOp op) r) (hs : SimR X.K r f) (ha : DE X a ta wa) (hb : DE X b tb wb) (hm : behindInMarks op b = false := by first | exact nomark _ (by decide) (by decide) | rfl) : DE X (.Compare a [op] [b] pos) (tOp r ta tb) (wOp f wa wb) :=
  ⟨pe_cmpR ho ha.pe hb.pe hm, sim_op ha.sm hb.sm hs⟩
/-- a value's answer as a test -/
def wB (w : WE) : WT := fun ρ M Q => w ρ M fun d M1 => match d with
  | .bl x => Q x M1
  | _ => False
theorem sim_test {K : PySem.W.Frag} (ha : SimE K t w) : SimT K (tTest t) (wB w) := by
  intro Z ρ M σ H Q Q' s h q
  refine ha Z ρ M σ H _ _ s h fun x d H1 M1 g1 r1 q1 => ?_
  cases d with
  | bl y =>
    cases r1
    exact ⟨y, rfl, q y H1 M1 g1 q1⟩
  | _ => exact q1.elim
theorem dt_cmp {op : CmpOp} {r : R2} {f : F2} (ho : OpR X (compareOp op) r) (hs : SimR X.K r f) (ha : DE X a ta wa) (hb : DE X b tb wb) (hm : behindInMarks op b = false := by first | exact nomark _ (by decide) (by decide) | rfl) : DT X (.Compare a [op] [b] pos) (tTest (tOp r ta tb)) (wB (wOp f wa wb)) :=
  ⟨pt_cmpR ho ha.pe hb.pe hm, sim_test (sim_op ha.sm hb.sm hs)⟩
/-- a op b op' c -/
def wChain (f f' : F2) (wa wb wc : WE) : WE := fun ρ M Q => wa ρ M fun d M1 => wb ρ M1 fun e M2 => f d e M2 fun z M3 => match z with
  | .bl true => wc ρ M3 fun g M4 => f' e g M4 Q
  | .bl false => Q (.bl false) M3
  | _ => False
/-! ### arithmetic -/
def fI (C : Int → Int → Prop) (g : Int → Int → D) : F2 := fun d e M Q => match d, e with
  | .int i, .int j => C i j ∧ Q (g i j) M
  | _, _ => False
def fI0 (g : Int → Int → D) : F2 := fun d e M Q => match d, e with
  | .int i, .int j => Q (g i j) M
  | _, _ => False
theorem sim_I {K : PySem.W.Frag} {C : Int → Int → Prop} {g : Int → Int → V} {g' : Int → Int → D} (h : ∀ i j H, Rep K H (g i j) (g' i j)) : SimR K (rI C g) (fI C g') := by
  intro Z x y d e H M Q Q' S r1 r2 f q
  cases d <;> cases e <;> first | exact f.elim | skip
  cases r1
  cases r2
  exact ⟨_, _, rfl, rfl, f.1, q _ _ H M (Go.refl S) (h _ _ _) f.2⟩
theorem sim_I0 {K : PySem.W.Frag} {g : Int → Int → V} {g' : Int → Int → D} (h : ∀ i j H, Rep K H (g i j) (g' i j)) : SimR K (rI0 g) (fI0 g') := by
  intro Z x y d e H M Q Q' S r1 r2 f q
  cases d <;> cases e <;> first | exact f.elim | skip
  cases r1
  cases r2
  exact ⟨_, _, rfl, rfl, q _ _ H M (Go.refl S) (h _ _ _) f⟩
def addD : F2 := fun d e M Q => match d, e with
  | .int i, .int j => Q (.int (i + j)) M
  | .str i, .str j => i.length + j.length ≤ sizeLine ∧ Q (.str (i ++ j)) M
  | .tup i, .tup j => i.length + j.length ≤ sizeLine ∧ Q (.tup (i ++ j)) M
  | d, e => ∃ i j, (∃ a, d = .tok a ∨ d = .lst i) ∧ (∃ a, e = .tok a ∨ e = .lst j) ∧ seqD M d = some i ∧ seqD M e = some j ∧ i.length + j.length ≤ sizeLine ∧ Q (.lst (i ++ j)) M
theorem lst_of {K : PySem.W.Frag} {Z : Hp} {H : Hp} {M : Mp} {v : V} {d : D} {ds : List D} (S : Sat K Z H M) (r : Rep K (fz Z H M) v d) (h : ∃ a, d = .tok a ∨ d = .lst ds) (e : seqD M d = some ds) : ∃ a vs, v = .ref a ∧ SqL K H a vs ∧ RepL K (fz Z H M) vs ds := by
  obtain ⟨a, h⟩ := h
  rcases h with rfl | rfl
  · cases r
    have e' : (match M a with | some (.lst ds) => some ds | _ => none) = some ds := e
    cases q : M a with
    | none =>
      rw [q] at e'
      cases e'
    | some c =>
      rw [q] at e'
      cases c with
      | lst es =>
        obtain rfl : es = ds := Option.some.inj e'
        obtain ⟨vs, e1, rl⟩ := S.cell a _ q
        exact ⟨_, _, rfl, .inl (.inl e1), rl⟩
      | aux => cases e'
      | drw _ => cases e'
      | tab _ _ => cases e'
      | box => cases e'
      | err _ _ => cases e'
      | ins _ _ => cases e'
      | dic _ _ => cases e'
  · cases r with
    | lst hs ha => exact ⟨_, _, rfl, fz_sub.seq hs, ha⟩
/-- list + list -/
def rCatL (K : PySem.W.Frag) : R2 := fun x y H Q => ∃ l b xs zs, x = .ref l ∧ y = .ref b ∧ SqL K H l xs ∧ SqL K H b zs ∧ xs.length + zs.length ≤ sizeLine ∧ ∀ p, H p = none → Q (.ref p) (upd H p (.lst (xs ++ zs)))
theorem op_catL : OpR X (binaryOp .Add) (rCatL X.K) := by
  intro pins s σ H x y v u Q I rx ry h
  obtain ⟨l, b, xs, zs, rfl, rfl, h1, h2, hz, q⟩ := h
  cases rx
  cases ry
  obtain ⟨its, rv, p1, z1⟩ := I.list h1
  obtain ⟨its2, rv2, p2, z2⟩ := I.list h2
  have l1 := rv.length
  have l2 := rv2.length
  obtain ⟨⟨cl1, dd1, da1, sl1⟩, n1, ho1, hc1, hx1, hd1⟩ := p1
  obtain ⟨⟨cl2, dd2, da2, sl2⟩, n2, ho2, hc2, hx2, hd2⟩ := p2
  simp only at hc1 hd1 hc2 hd2
  subst hc1 hd1 hc2 hd2
  have ea : its.toArray ++ its2.toArray = (its ++ its2).toArray := by simp
  refine PySem.concat_meets ⟨_, ho1, rfl⟩ ⟨_, ho2, rfl⟩ PySem.noFill_list_add PySem.seq_list_add PySem.F.slot_list_add PySem.F.entry_list_add (PySem.F.args_list_add_2 _ _) (PyProof.Rows.list_addW l b its.toArray its2.toArray n1 n2 dd1 dd2 sl1 sl2 (by rw [List.size_toArray, List.size_toArray]; omega)) ⟨ho1, ho2, ?_⟩
  rw [ea]
  exact ⟨.ref _, _, I.lnew (t' := s.toks) (rv.append rv2) (by rw [List.length_append]; omega), rfl, q _ I.fresh⟩
theorem sim_cat {K : PySem.W.Frag} {Z : Hp} : ∀ (x y : V) (d e : D) (H : Hp) (M : Mp) (Q : KD) (Q' : VK) (i j : List D), Sat K Z H M → Rep K (fz Z H M) x d → Rep K (fz Z H M) y e → (∃ a, d = .tok a ∨ d = .lst i) → (∃ a, e = .tok a ∨ e = .lst j) → seqD M d = some i → seqD M e = some j → i.length + j.length ≤ sizeLine → Q (.lst (i ++ j)) M →
    (∀ v d' H' M', Go K Z H M H' M' → Rep K (fz Z H' M') v d' → Q d' M' → Q' v H') → rCatL K x y H Q' := by
  intro x y d e H M Q Q' i j S r1 r2 h1 h2 s1 s2 l q z
  obtain ⟨p, vs, rfl, hp, rl⟩ := lst_of S r1 h1 s1
  obtain ⟨p', ws, rfl, hp', rl'⟩ := lst_of S r2 h2 s2
  refine ⟨p, p', vs, ws, rfl, rfl, hp, hp', by rw [rl.len, rl'.len]; exact l, fun o ho => ?_⟩
  obtain ⟨g, n⟩ := Go.laid (o := .lst (vs ++ ws)) S ho
  exact z _ _ _ _ g (.lst (.inl (.inl n)) ((rl.app rl').up g.ex)) q
def rAddA (K : PySem.W.Frag) : R2 := fun x y H Q => rI0 (fun i j => .int (i + j)) x y H Q ∨ (∃ i j, x = .str i ∧ y = .str j ∧ i.length + j.length ≤ sizeLine ∧ Q (.str (i ++ j)) H) ∨ rCatL K x y H Q ∨ rCatA K x y H Q
theorem op_addA : OpR X (binaryOp .Add) (rAddA X.K) := op_add.or (op_add_str.or (op_catL.or op_catA))
theorem sim_addA {K : PySem.W.Frag} : SimR K (rAddA K) addD := by
  intro Z x y d e H M Q Q' S r1 r2 f q
  have viaL : (∃ i j, (∃ a, d = .tok a ∨ d = .lst i) ∧ (∃ a, e = .tok a ∨ e = .lst j) ∧ seqD M d = some i ∧ seqD M e = some j ∧ i.length + j.length ≤ sizeLine ∧ Q (.lst (i ++ j)) M) → rAddA K x y H Q' := fun ⟨i, j, h1, h2, s1, s2, l, z⟩ =>
    .inr (.inr (.inl (sim_cat x y d e H M Q Q' i j S r1 r2 h1 h2 s1 s2 l z q)))
  unfold addD at f
  split at f
  · cases r1
    cases r2
    exact .inl ⟨_, _, rfl, rfl, q _ _ H M (Go.refl S) (.int _) f⟩
  · cases r1
    cases r2
    exact .inr (.inl ⟨_, _, rfl, rfl, f.1, q _ _ H M (Go.refl S) (.str _) f.2⟩)
  · rename_i i j
    cases r1 with
    | @tup p vs _ h1 l1 =>
      cases r2 with
      | @tup p' ws _ h2 l2 =>
        refine .inr (.inr (.inr ⟨p, p', vs, ws, rfl, rfl, sqt_mono fz_sub h1, sqt_mono fz_sub h2, by rw [l1.len, l2.len]; exact f.1, fun en => ?_, fun _ en => ?_, fun _ _ o ho => ?_⟩))
        · subst en
          cases l1
          exact q _ _ H M (Go.refl S) (.tup h2 l2) f.2
        · subst en
          cases l2
          have z := f.2
          rw [List.append_nil] at z
          exact q _ _ H M (Go.refl S) (.tup h1 l1) z
        · obtain ⟨g, n⟩ := Go.laid (o := .tup (vs ++ ws)) S ho
          exact q _ _ _ _ g (.tup (.inl (.inl n)) ((l1.app l2).up g.ex)) f.2
  · exact viaL f
theorem de_add (ha : DE X a ta wa) (hb : DE X b tb wb) : DE X (.BinOp a .Add b pos) (tOp (rAddA X.K) ta tb) (wOp addD wa wb) := de_op op_addA sim_addA ha hb
theorem de_sub (ha : DE X a ta wa) (hb : DE X b tb wb) : DE X (.BinOp a .Sub b pos) (tOp (rI0 fun i j => .int (i - j)) ta tb) (wOp (fI0 fun i j => .int (i - j)) wa wb) := de_op op_sub (sim_I0 fun _ _ _ => .int _) ha hb
/-- products: one is not too great, or both together -/
def CM (i j : Int) : Prop := CMul i j ∨ CMulW i j
theorem op_mulM {X : Cx} : OpR X (binaryOp .Mult) (rI CM fun i j => .int (i * j)) := fun pins s σ H x y v u Q I r1 r2 ⟨i, j, e1, e2, c, q⟩ => c.elim (fun c => op_mul pins s σ H x y v u Q I r1 r2 ⟨i, j, e1, e2, c, q⟩) fun c => op_mulW pins s σ H x y v u Q I r1 r2 ⟨i, j, e1, e2, c, q⟩
theorem de_mul (ha : DE X a ta wa) (hb : DE X b tb wb) : DE X (.BinOp a .Mult b pos) (tOp (rI CM fun i j => .int (i * j)) ta tb) (wOp (fI CM fun i j => .int (i * j)) wa wb) := de_op op_mulM (sim_I fun _ _ _ => .int _) ha hb
theorem de_fdiv (ha : DE X a ta wa) (hb : DE X b tb wb) : DE X (.BinOp a .FloorDiv b pos) (tOp (rI CDivW fun i j => .int (i / j)) ta tb) (wOp (fI CDivW fun i j => .int (i / j)) wa wb) := de_op op_fdivW (sim_I fun _ _ _ => .int _) ha hb
theorem de_mod (ha : DE X a ta wa) (hb : DE X b tb wb) : DE X (.BinOp a .Mod b pos) (tOp (rI (fun _ j => 0 < j) fun i j => .int (i % j)) ta tb) (wOp (fI (fun _ j => 0 < j) fun i j => .int (i % j)) wa wb) := de_op op_mod (sim_I fun _ _ _ => .int _) ha hb
theorem de_pow (ha : DE X a ta wa) (hb : DE X b tb wb) : DE X (.BinOp a .Pow b pos) (tOp (rI CPow fun i j => .int (i ^ j.toNat)) ta tb) (wOp (fI CPow fun i j => .int (i ^ j.toNat)) wa wb) := de_op op_pow (sim_I fun _ _ _ => .int _) ha hb
def wNeg (wa : WE) : WE := fun ρ M Q => wa ρ M fun d M1 => match d with
  | .int i => Q (.int (-i)) M1
  | _ => False
theorem de_neg (ha : DE X a ta wa) : DE X (.UnaryOp .USub a pos) (tUn (rU fun i => .int (-i)) ta) (wNeg wa) := by
  refine ⟨pe_un un_neg ha.pe, fun Z ρ M σ H Q Q' s h q => ?_⟩
  refine ha.sm Z ρ M σ H _ _ s h fun x d H1 M1 g1 r1 q1 => ?_
  cases d with
  | int i =>
    cases r1
    exact ⟨i, rfl, q _ _ H1 M1 g1 (.int _) q1⟩
  | _ => exact q1.elim
/-! ### comparisons -/
def eqD2 (neg : Bool) : F2 := fun d e M Q => (∃ n, n ≤ 60 ∧ fit n (res M d) ∧ fit n (res M e)) ∧ Q (.bl (if neg then !eqD (res M d) (res M e) else eqD (res M d) (res M e))) M
theorem sim_eq {K : PySem.W.Frag} : SimR K (rEqD K) (eqD2 false) := by
  intro Z x y d e H M Q Q' S r1 r2 ⟨⟨n, hn, f1, f2⟩, f⟩ q
  exact ⟨_, _, Rep.dp n _ _ f1 (res_rep S r1), Rep.dp n _ _ f2 (res_rep S r2), fit_shaped f1 (by omega), fit_shaped f2 (by omega), q _ _ H M (Go.refl S) (.bl _) f⟩
theorem sim_ne {K : PySem.W.Frag} : SimR K (rNeD K) (eqD2 true) := by
  intro Z x y d e H M Q Q' S r1 r2 ⟨⟨n, hn, f1, f2⟩, f⟩ q
  exact ⟨_, _, Rep.dp n _ _ f1 (res_rep S r1), Rep.dp n _ _ f2 (res_rep S r2), fit_shaped f1 (by omega), fit_shaped f2 (by omega), q _ _ H M (Go.refl S) (.bl _) f⟩
theorem op_eqG (hr : Room k X.A) : OpR X (compareOp .Eq) (rEqD X.K) := op_eqD hr.units
theorem op_neG (hr : Room k X.A) : OpR X (compareOp .NotEq) (rNeD X.K) := op_neD hr.units
abbrev fLt : F2 := fI0 fun i j => .bl (decide (i < j))
abbrev fLe : F2 := fI0 fun i j => .bl (decide (i ≤ j))
abbrev fGt : F2 := fI0 fun i j => .bl (decide (j < i))
abbrev fGe : F2 := fI0 fun i j => .bl (decide (j ≤ i))
theorem sim_lt {K : PySem.W.Frag} : SimR K (rI0 fun i j => .bl (decide (i < j))) fLt := sim_I0 fun _ _ _ => .bl _
theorem sim_ge {K : PySem.W.Frag} : SimR K (rI0 fun i j => .bl (decide (j ≤ i))) fGe := sim_I0 fun _ _ _ => .bl _
def fIsN (neg : Bool) : F2 := fun d e M Q => match d, e with
  | .non, .non => Q (.bl (!neg)) M
  | _, .non => Q (.bl neg) M
  | _, _ => False
theorem rep_non {K : PySem.W.Frag} {H : Hp} {x : V} {d : D} (r : Rep K H x d) (h : d ≠ .non) : x ≠ .non := fun z => by
  subst z
  cases r
  exact h rfl
theorem sim_isN {K : PySem.W.Frag} : SimR K (fun x y H Q => y = .non ∧ Q (.bl (decide (x = .non))) H) (fIsN false) := by
  intro Z x y d e H M Q Q' S r1 r2 f q
  unfold fIsN at f
  split at f
  · cases r1
    cases r2
    exact ⟨rfl, q _ _ H M (Go.refl S) (.bl _) f⟩
  · rename_i h
    cases r2
    rw [decide_eq_false (rep_non r1 h)]
    exact ⟨rfl, q _ _ H M (Go.refl S) (.bl _) f⟩
  · exact f.elim
/-! ### tests -/
/-- a bool's own value as a test: a name, a call, a subscript .. -/
theorem dt_val (h : DE X e t w) (he : ∀ whole, isTrue e X.env whole = (do let v ← whole; standAt e.pos; holding [v] (truthy v)) := by intro _; rfl) : DT X e (tB t) (wB w) := ⟨pt_val h.pe he, sim_test h.sm⟩
def wNot (w : WT) : WT := fun ρ M Q => w ρ M fun b M1 => Q (!b) M1
def wAnd (w u : WT) : WT := fun ρ M Q => w ρ M fun b M1 => if b = true then u ρ M1 Q else Q false M1
def wOr (w u : WT) : WT := fun ρ M Q => w ρ M fun b M1 => if b = true then Q true M1 else u ρ M1 Q
variable {tA tB' : TT} {wA wB' : WT} {rest : List Expr}
theorem dt_not (ha : DT X a tA wA) : DT X (.UnaryOp .Not a pos) (tNot tA) (wNot wA) := ⟨pt_not ha.pe, fun Z ρ M σ H Q Q' s h q => ha.sm Z ρ M σ H _ _ s h fun b H1 M1 g z => q _ H1 M1 g z⟩
theorem sim_and {K : PySem.W.Frag} (ha : SimT K tA wA) (hb : SimT K tB' wB') : SimT K (tAnd tA tB') (wAnd wA wB') := by
  intro Z ρ M σ H Q Q' s h q
  refine ha Z ρ M σ H _ _ s h fun b H1 M1 g z => ?_
  cases b with
  | true => exact hb Z ρ M1 σ H1 _ _ (s.go g) z fun b' H2 M2 g2 z2 => q b' H2 M2 (g.trans g2) z2
  | false => exact q _ H1 M1 g z
theorem sim_or {K : PySem.W.Frag} (ha : SimT K tA wA) (hb : SimT K tB' wB') : SimT K (tOr tA tB') (wOr wA wB') := by
  intro Z ρ M σ H Q Q' s h q
  refine ha Z ρ M σ H _ _ s h fun b H1 M1 g z => ?_
  cases b with
  | false => exact hb Z ρ M1 σ H1 _ _ (s.go g) z fun b' H2 M2 g2 z2 => q b' H2 M2 (g.trans g2) z2
  | true => exact q _ H1 M1 g z
theorem dw_and1 (ha : DT X a tA wA) : DW X (.BoolOp .And [a] pos) tA wA := ⟨pw_and1 ha.pe, ha.sm⟩
theorem dw_or1 (ha : DT X a tA wA) : DW X (.BoolOp .Or [a] pos) tA wA := ⟨pw_or1 ha.pe, ha.sm⟩
theorem dw_and (ha : DT X a tA wA) (hb : DW X (.BoolOp .And (b :: rest) pos) tB' wB') : DW X (.BoolOp .And (a :: b :: rest) pos) (tAnd tA tB') (wAnd wA wB') := ⟨pw_and ha.pe hb.pe, sim_and ha.sm hb.sm⟩
theorem dw_or (ha : DT X a tA wA) (hb : DW X (.BoolOp .Or (b :: rest) pos) tB' wB') : DW X (.BoolOp .Or (a :: b :: rest) pos) (tOr tA tB') (wOr wA wB') := ⟨pw_or ha.pe hb.pe, sim_or ha.sm hb.sm⟩
theorem DW.dt {t : TT} {w : WT} (h : DW X e t w) : DT X e t w := ⟨h.pe.pt, h.sm⟩
/-! .. as values -/
def wAndV (wa wb : WE) : WE := fun ρ M Q => wa ρ M fun d M1 => match d with
  | .bl true => wb ρ M1 Q
  | .bl false => Q (.bl false) M1
  | _ => False
def wOrV (wa wb : WE) : WE := fun ρ M Q => wa ρ M fun d M1 => match d with
  | .bl false => wb ρ M1 Q
  | .bl true => Q (.bl true) M1
  | _ => False
def wNotV (wa : WE) : WE := fun ρ M Q => wa ρ M fun d M1 => match d with
  | .bl b => Q (.bl (!b)) M1
  | _ => False
theorem de_one {op} (h : DE X a t w) : DE X (.BoolOp op [a] pos) t w := ⟨pe_one h.pe, h.sm⟩
theorem de_and (ha : DE X a ta wa) (hb : DE X (.BoolOp .And (b :: rest) pos) tb wb) : DE X (.BoolOp .And (a :: b :: rest) pos) (tAndV ta tb) (wAndV wa wb) := by
  refine ⟨pe_and ha.pe hb.pe, fun Z ρ M σ H Q Q' s h q => ?_⟩
  refine ha.sm Z ρ M σ H _ _ s h fun x d H1 M1 g1 r1 q1 => ?_
  cases d with
  | bl y =>
    cases r1
    cases y with
    | true => exact ⟨true, rfl, hb.sm Z ρ M1 σ H1 _ _ (s.go g1) q1 fun v d2 H2 M2 g2 r2 q2 => q v d2 H2 M2 (g1.trans g2) r2 q2⟩
    | false => exact ⟨false, rfl, q _ _ H1 M1 g1 (.bl _) q1⟩
  | _ => exact q1.elim
theorem de_not (ha : DE X a ta wa) : DE X (.UnaryOp .Not a pos) (tNotV ta) (wNotV wa) := by
  refine ⟨pe_not ha.pe, fun Z ρ M σ H Q Q' s h q => ?_⟩
  refine ha.sm Z ρ M σ H _ _ s h fun x d H1 M1 g1 r1 q1 => ?_
  cases d with
  | bl y =>
    cases r1
    exact ⟨y, rfl, q _ _ H1 M1 g1 (.bl _) q1⟩
  | _ => exact q1.elim
def wIf (c : WT) (wa wb : WE) : WE := fun ρ M Q => c ρ M fun b M1 => if b = true then wa ρ M1 Q else wb ρ M1 Q
theorem de_if {c : Expr} (hc : DT X c tA wA) (ha : DE X a ta wa) (hb : DE X b tb wb) : DE X (.IfExp c a b pos) (tIf tA ta tb) (wIf wA wa wb) := by
  refine ⟨pe_ifExp hc.pe ha.pe hb.pe, fun Z ρ M σ H Q Q' s h q => ?_⟩
  refine hc.sm Z ρ M σ H _ _ s h fun y H1 M1 g1 q1 => ?_
  cases y with
  | true => exact ha.sm Z ρ M1 σ H1 _ _ (s.go g1) q1 fun v d2 H2 M2 g2 r2 q2 => q v d2 H2 M2 (g1.trans g2) r2 q2
  | false => exact hb.sm Z ρ M1 σ H1 _ _ (s.go g1) q1 fun v d2 H2 M2 g2 r2 q2 => q v d2 H2 M2 (g1.trans g2) r2 q2
/-! ### arguments, displays, calls -/
def wNil : WA := fun _ M Q => Q [] M
def wCons (w : WE) (r : WA) : WA := fun ρ M Q => w ρ M fun d M1 => r ρ M1 fun ds M2 => Q (d :: ds) M2
variable {tr : TA} {wr : WA}
theorem sim_nil {K : PySem.W.Frag} : SimA K tNil wNil := fun Z ρ M σ H Q Q' s h q => q [] [] H M s.refl .nil h
theorem sim_cons {K : PySem.W.Frag} (ha : SimE K te we) (hr : SimA K tr wr) : SimA K (tCons te tr) (wCons we wr) := by
  intro Z ρ M σ H Q Q' s h q
  refine ha Z ρ M σ H _ _ s h fun x d H1 M1 g1 r1 q1 => ?_
  refine hr Z ρ M1 σ H1 _ _ (s.go g1) q1 fun xs ds H2 M2 g2 r2 q2 => ?_
  exact q (x :: xs) (d :: ds) H2 M2 (g1.trans g2) (.cons (r1.up g2.ex) r2) q2
theorem da_nil : DA X [] tNil wNil := ⟨pa_nil, sim_nil⟩
theorem da_cons (ha : DE X e te we) (hr : DA X es tr wr) (hs : starEach (e :: es) X.env = (false, eval e X.env) :: starEach es X.env := by rfl) : DA X (e :: es) (tCons te tr) (wCons we wr) := ⟨pa_cons ha.pe hr.pe hs, sim_cons ha.sm hr.sm⟩
def wTup (r : WA) : WE := fun ρ M Q => r ρ M fun ds M1 => ds.length ≤ sizeLine ∧ Q (.tup ds) M1
def wLst (r : WA) : WE := fun ρ M Q => r ρ M fun ds M1 => ds.length ≤ sizeLine ∧ Q (.lst ds) M1
theorem de_tup {x1} (h : DA X es tr wr) : DE X (.Tuple es x1 pos) (tTup tr) (wTup wr) := by
  refine ⟨pe_tup h.pe, fun Z ρ M σ H Q Q' s hh q => ?_⟩
  refine h.sm Z ρ M σ H _ _ s hh fun xs ds H1 M1 g1 r1 ⟨l, q1⟩ => ⟨by rw [r1.len]; exact l, fun p hp => ?_⟩
  obtain ⟨g, n⟩ := Go.laid (o := .tup xs) g1.sat hp
  exact q _ _ _ _ (g1.trans g) (.tup (.inl (.inl n)) (r1.up g.ex)) q1
theorem de_lst (h : DA X es tr wr) : DE X (.List es pos) (tLst tr) (wLst wr) := by
  refine ⟨pe_lst h.pe, fun Z ρ M σ H Q Q' s hh q => ?_⟩
  refine h.sm Z ρ M σ H _ _ s hh fun xs ds H1 M1 g1 r1 ⟨l, q1⟩ => ⟨by rw [r1.len]; exact l, fun p hp => ?_⟩
  obtain ⟨g, n⟩ := Go.laid (o := .lst xs) g1.sat hp
  exact q _ _ _ _ (g1.trans g) (.lst (.inl (.inl n)) (r1.up g.ex)) q1
/-- f(e, ..) by its contract -/
def wCall (F : Fs) (r : WA) : WE := fun ρ M Q => r ρ M fun ds M1 => F ds M1 Q fun _ _ _ => False
theorem sim_call {K : PySem.W.Frag} {F : Fs} (ha : SimA K tr wr) : SimE K (tCallG (lift K F) [] E0 tr) (wCall F wr) := by
  intro Z ρ M σ H Q Q' s h q
  refine ha Z ρ M σ H _ _ s h fun xs ds H1 M1 g1 r1 q1 => ?_
  show lift K F (xs ++ []) H1 Q' E0
  rw [List.append_nil]
  exact ⟨Z, ds, M1, Q, _, g1.sat, r1, q1, fun v d H2 M2 g2 r2 q2 => q v d H2 M2 (g1.trans g2) r2 q2, fun _ _ _ _ _ _ _ _ _ _ _ _ z => z.elim⟩
variable {f : Addr} {fd : FuncData} {ps : List Str} {F : Fs} {x : Str} {p : Pos}
theorem de_call (G : FnG X.prog X.w X.K X.mg X.base k f fd ps (lift X.K F)) (hr : Room k X.A) (gd : X.A.guards = some []) (hm : X.mg x = some (.ref f)) (hk : PySem.W.keepIn X.K (.ref f) = true) (hb : Binds X.K fd ps [])
    (ha : DA X (e :: es) tr wr) (hg : Gl X x := by rfl) (hdb : (x == ("__debug__" : Str)) = false := by decide) (he : starEach (e :: es) X.env = (false, eval e X.env) :: starEach es X.env := by rfl) (hpl : (backTo pos (starEach es X.env)).any (·.1) = false := by rfl) :
    DE X (.Call (.Name x p) (e :: es) [] pos) (tCallG (lift X.K F) [] E0 tr) (wCall F wr) := ⟨pe_callG G hr gd hg hm hk hb .nil passL ha.pe hdb he hpl, sim_call ha.sm⟩
end
end L3
namespace L3
open PySem L2
section
variable {X : Cx} {E : XK} {e a b c : Expr} {es : List Expr} {t ta tb tc te : TE} {w wa wb wc we : WE} {pos : Pos} {k : Nat} {tr : TA} {wr : WA}
/-! ### keywords -/
structure DK (X : Cx) (kws : List Keyword) (t : TA) (w : WA) : Prop where
  pe : PK X kws t
  sm : SimA X.K t w
variable {nm : Option Str} {kpos : Pos} {kws : List Keyword} {tk : TA} {wk : WA}
theorem dk_nil : DK X [] tNil wNil := ⟨pk_nil, sim_nil⟩
theorem dk_cons (ha : DE X e te we) (hr : DK X kws tk wk) : DK X (⟨nm, e, kpos⟩ :: kws) (tCons te tk) (wCons we wk) := ⟨pk_cons ha.pe hr.pe, sim_cons ha.sm hr.sm⟩
def permD (idx : List Nat) (ds es : List D) : List D := idx.map fun i => (ds ++ es).getD i .non
theorem rep_getD {K : PySem.W.Frag} {H : Hp} : ∀ {vs : List V} {ds : List D} (i : Nat), RepL K H vs ds → Rep K H (vs.getD i .non) (ds.getD i .non)
  | _, _, _, .nil => .non
  | _, _, 0, .cons r _ => r
  | _, _, i + 1, .cons _ q => rep_getD i q
theorem perm_repL {K : PySem.W.Frag} {H : Hp} (idx : List Nat) {vs zs : List V} {ds es : List D} (r : RepL K H vs ds) (q : RepL K H zs es) : RepL K H (perm idx vs zs) (permD idx ds es) := by
  have ra := r.app q
  unfold perm permD
  induction idx with
  | nil => exact .nil
  | cons i is ih => exact .cons (rep_getD i ra) ih
def wCallK (n m : Nat) (idx : List Nat) (F : Fs) (r rk : WA) : WE := fun ρ M Q => r ρ M fun ds M1 => rk ρ M1 fun es M2 => ds.length = n ∧ es.length = m ∧ F (permD idx ds es) M2 Q fun _ _ _ => False
theorem sim_callK {K : PySem.W.Frag} {F : Fs} {n m : Nat} {idx : List Nat} (ha : SimA K tr wr) (hk : SimA K tk wk) : SimE K (tCallGK n m idx (lift K F) E0 tr tk) (wCallK n m idx F wr wk) := by
  intro Z ρ M σ H Q Q' s h q
  refine ha Z ρ M σ H _ _ s h fun xs ds H1 M1 g1 r1 q1 => ?_
  refine hk Z ρ M1 σ H1 _ _ (s.go g1) q1 fun ys es H2 M2 g2 r2 ⟨l1, l2, q2⟩ => ⟨by rw [r1.len]; exact l1, by rw [r2.len]; exact l2, ?_⟩
  exact ⟨Z, _, M2, Q, _, g2.sat, perm_repL idx (r1.up g2.ex) r2, q2, fun v d H3 M3 g3 r3 q3 => q v d H3 M3 ((g1.trans g2).trans g3) r3 q3, fun _ _ _ _ _ _ _ _ _ _ _ _ z => z.elim⟩
variable {f : Addr} {fd : FuncData} {ps : List Str} {F : Fs} {x : Str} {p : Pos}
theorem de_callK0 {ks : List Str} {idx : List Nat} (G : FnG X.prog X.w X.K X.mg X.base k f fd ps (lift X.K F)) (hr : Room k X.A) (gd : X.A.guards = some []) (hm : X.mg x = some (.ref f)) (hk : PySem.W.keepIn X.K (.ref f) = true) (hb : KB X.K fd ps 0 ks idx)
    (hkw : DK X kws tk wk) (hg : Gl X x := by rfl) (hall : (backToKw pos (keywordEach kws X.env)).all (·.1.isSome) = true := by rfl) (hks : (backToKw pos (keywordEach kws X.env)).filterMap (·.1) = ks := by rfl)
    (hdb : (x == ("__debug__" : Str)) = false := by decide)
    (hpl : ((backTo pos (starEach [] X.env)).any (·.1) || (backToKw pos (keywordEach kws X.env)).any (·.1.isNone)) = false := by rfl) :
    DE X (.Call (.Name x p) [] kws pos) (tCallGK 0 ks.length idx (lift X.K F) E0 tNil tk) (wCallK 0 ks.length idx F wNil wk) := ⟨pe_callGK0 G hr gd hg hm hk hb passL hkw.pe hall hks hdb hpl, sim_callK sim_nil hkw.sm⟩
/-! ### places of lists, tuples, texts -/
def ixD : F2 := fun d e M Q => match d, e with
  | .str z, .int i => z.length ≤ sizeLine ∧ ∃ c, atI z.cps.toList i = some c ∧ Q (.str ⟨#[c]⟩) M
  | d, .int i => ∃ ds x, seqD M d = some ds ∧ atI ds i = some x ∧ Q x M
  | _, _ => False
theorem atI_len {α β : Type} {xs : List α} {ys : List β} {i : Int} {x : α} (h : atI xs i = some x) (l : xs.length = ys.length) : ∃ (y : β) (j : Nat), atI ys i = some y ∧ ys[j]? = some y ∧ xs[j]? = some x := by
  unfold atI at h ⊢
  rw [l] at h
  cases q : ixN ys.length i with
  | none =>
    rw [q] at h
    cases h
  | some j =>
    rw [q] at h
    have h' : xs[j]? = some x := h
    have hj : j < ys.length := by
      rw [← l]
      exact (List.getElem?_eq_some_iff.mp h').1
    exact ⟨ys[j], j, List.getElem?_eq_getElem hj, List.getElem?_eq_getElem hj, h'⟩
theorem sim_ix {K : PySem.W.Frag} : SimR K (rIx K) ixD := by
  intro Z x y d e H M Q Q' S r1 r2 f q
  unfold ixD at f
  split at f
  · cases r1
    cases r2
    obtain ⟨l, c, ha, z⟩ := f
    exact .inr (.inr ⟨_, _, c, rfl, rfl, l, ha, q _ _ H M (Go.refl S) (.str _) z⟩)
  · cases r2
    obtain ⟨ds, x', hs, ha, z⟩ := f
    obtain ⟨a, vs, rfl, hv, rl⟩ := seq_of S r1 hs
    obtain ⟨v, j, a1, a2, a3⟩ := atI_len ha rl.len.symm
    obtain ⟨v', b1, b2⟩ := rl.get a3
    rw [a2] at b1
    cases b1
    rcases hv with hv | hv
    · exact .inl ⟨a, vs, _, v, rfl, rfl, hv, a1, q _ _ H M (Go.refl S) b2 z⟩
    · exact .inr (.inl ⟨a, vs, _, v, rfl, rfl, hv, a1, q _ _ H M (Go.refl S) b2 z⟩)
  · exact f.elim
theorem de_ix (ha : DE X a ta wa) (hb : DE X b tb wb) (hs : PlainIx b := by intro _ _; rfl) : DE X (.Subscript a b pos) (tOp (rIx X.K) ta tb) (wOp ixD wa wb) := ⟨pe_ix ix_seq ha.pe hb.pe hs, sim_op ha.sm hb.sm sim_ix⟩
/-! ### slices -/
abbrev WO := En → Mp → (Option Int → Mp → Prop) → Prop
def SimO (K : PySem.W.Frag) (t : TO) (w : WO) : Prop := ∀ (Z : Hp) (ρ : En) (M : Mp) (σ : L2.St) (H : Hp) (Q : Option Int → Mp → Prop) (Q' : Option Int → Hp → Prop), R3 K Z ρ M σ H → w ρ M Q → (∀ b H' M', Go K Z H M H' M' → Q b M' → Q' b H') → t σ H Q'
structure DO (X : Cx) (e : Option Expr) (t : TO) (w : WO) : Prop where
  pe : PO X e t
  sm : SimO X.K t w
def wNoP : WO := fun _ M Q => Q none M
def wPart (w : WE) : WO := fun ρ M Q => w ρ M fun d M1 => match d with
  | .int i => Q (some i) M1
  | _ => False
theorem do_none : DO X none tNoPart wNoP := ⟨po_none, fun Z ρ M σ H Q Q' s h q => q _ H M s.refl h⟩
theorem do_some (h : DE X e te we) : DO X (some e) (tPart te) (wPart we) := by
  refine ⟨po_some h.pe, fun Z ρ M σ H Q Q' s hh q => ?_⟩
  refine h.sm Z ρ M σ H _ _ s hh fun x d H1 M1 g1 r1 q1 => ?_
  cases d with
  | int i =>
    cases r1
    exact ⟨i, rfl, q _ H1 M1 g1 q1⟩
  | _ => exact q1.elim
def cutD (xs : List D) (lo hi : Option Int) : List D := (xs.drop (HT.sIx xs.length 0 lo)).take (HT.sIx xs.length xs.length hi - HT.sIx xs.length 0 lo)
theorem cut_rep {K : PySem.W.Frag} {H : Hp} {vs : List V} {ds : List D} (r : RepL K H vs ds) (lo hi : Option Int) : RepL K H (cutV vs lo hi) (cutD ds lo hi) := by
  unfold cutV cutD
  rw [r.len]
  exact (r.drop _).take _
def slD : D → Option Int → Option Int → Mp → KD → Prop := fun d lo hi M Q => match d with
  | .tup ds => Q (.tup (cutD ds lo hi)) M
  | .str z => z.length ≤ sizeLine ∧ Q (.str (cutS z lo hi)) M
  | d => ∃ ds, (∃ a, d = .tok a ∨ d = .lst ds) ∧ seqD M d = some ds ∧ Q (.lst (cutD ds lo hi)) M
def rSlU (K : PySem.W.Frag) : V → Option Int → Option Int → Hp → VK → Prop := fun x lo hi H Q => rSlL K x lo hi H Q ∨ rSlA K x lo hi H Q ∨ rSlS x lo hi H Q
theorem sl_any : SlR X (rSlU X.K) := sl_list.or (sl_tupA.or sl_str)
def wSl (w : WE) (wl wh : WO) : WE := fun ρ M Q => w ρ M fun d M1 => wl ρ M1 fun l M2 => wh ρ M2 fun u M3 => slD d l u M3 Q
theorem sim_sl {K : PySem.W.Frag} {tl th : TO} {wl wh : WO} (h : SimE K te we) (hl : SimO K tl wl) (hh : SimO K th wh) : SimE K (tSl (rSlU K) te tl th) (wSl we wl wh) := by
  intro Z ρ M σ H Q Q' s hw q
  refine h Z ρ M σ H _ _ s hw fun x d H1 M1 g1 r1 q1 => ?_
  refine hl Z ρ M1 σ H1 _ _ (s.go g1) q1 fun lo H2 M2 g2 q2 => ?_
  refine hh Z ρ M2 σ H2 _ _ (s.go (g1.trans g2)) q2 fun hi H3 M3 g3 q3 => ?_
  have g := (g1.trans g2).trans g3
  have r3 := (r1.up g2.ex).up g3.ex
  unfold slD at q3
  split at q3
  · rename_i ds
    cases r3 with
    | @tup a vs _ hs rl =>
      refine .inr (.inl ⟨a, vs, rfl, sqt_mono fz_sub hs, fun ⟨e1, e2⟩ => ?_, fun _ p hp => ?_⟩)
      · have e : cutD ds lo hi = ds := by
          unfold cutD
          rw [← rl.len, e1, e2, Nat.sub_zero, List.drop_zero, rl.len, List.take_length]
        rw [e] at q3
        exact q _ _ H3 M3 g (.tup hs rl) q3
      · obtain ⟨g4, n⟩ := Go.laid (o := .tup (cutV vs lo hi)) g3.sat hp
        exact q _ _ _ _ (g.trans g4) (.tup (.inl (.inl n)) ((cut_rep rl lo hi).up g4.ex)) q3
  · rename_i z
    cases r3
    exact .inr (.inr ⟨z, rfl, q3.1, q _ _ H3 M3 g (.str _) q3.2⟩)
  · obtain ⟨ds, hd, hs, z⟩ := q3
    obtain ⟨a, vs, rfl, ha, rl⟩ := lst_of g3.sat r3 hd hs
    refine .inl ⟨a, vs, rfl, ha, fun p hp => ?_⟩
    obtain ⟨g4, n⟩ := Go.laid (o := .lst (cutV vs lo hi)) g3.sat hp
    exact q _ _ _ _ (g.trans g4) (.lst (.inl (.inl n)) ((cut_rep rl lo hi).up g4.ex)) z
theorem de_slice {lo hi : Option Expr} {tl th : TO} {wl wh : WO} {p2 : Pos} (he : DE X e te we) (hl : DO X lo tl wl) (hu : DO X hi th wh) : DE X (.Subscript e (.Slice lo hi none p2) pos) (tSl (rSlU X.K) te tl th) (wSl we wl wh) := ⟨pe_slice sl_any he.pe hl.pe hu.pe, sim_sl he.sm hl.sm hu.sm⟩
end
end L3
namespace L3
open PySem L2
section
variable {X : Cx} {E : WX3} {e a b c : Expr} {es : List Expr} {t ta tb tc te : TE} {w wa wb wc we : WE} {pos : Pos} {k : Nat} {tr : TA} {wr : WA} {st : Stmt} {rest : List Stmt} {ts tu : TS} {ws wu : WS} {tA : TT} {wA : WT}
/-! ### truth of any value -/
/-! ### blocks and small statements -/
def wNext : WS := fun D ρ M => D.nx ρ M
def wSeq (w u : WS) : WS := fun D ρ M => w { D with nx := u D } ρ M
theorem sim_seq {K : PySem.W.Frag} (h1 : SimS K E ts ws) (h2 : SimS K E tu wu) : SimS K E (tSeq ts tu) (wSeq ws wu) := by
  intro Z D3 ρ M σ H D r h en
  refine h1 Z _ ρ M σ H _ r h ⟨fun ρ' M' σ' H' r' g n => ?_, en.rt, en.bk, en.ct, en.xr⟩
  exact h2 Z D3 ρ' M' σ' H' D r' n (en.go g)
theorem dss_nil : DSs X E [] tNext wNext := ⟨pss_nil, fun Z D3 ρ M σ H D r h en => en.nx ρ M σ H r r.refl h⟩
theorem dss_cons (h1 : DS X E st ts ws) (h2 : DSs X E rest tu wu) : DSs X E (st :: rest) (tSeq ts tu) (wSeq ws wu) := ⟨pss_cons h1.pe h2.pe, sim_seq h1.sm h2.sm⟩
theorem dss_one (h1 : DS X E st ts ws) : DSs X E [st] ts ws := ⟨pss_one h1.pe, h1.sm⟩
def wDrop (w : WE) : WS := fun D ρ M => w ρ M fun _ M1 => D.nx ρ M1
theorem ds_expr (he : DE X e te we) (hs : swapsWith e none pos.line X.env = pure false := by rfl) : DS X E (.Expr e pos) (tDrop te) (wDrop we) :=
  ⟨ps_expr he.pe hs, fun Z D3 ρ M σ H D r h en => he.sm Z ρ M σ H _ _ r h fun v d H1 M1 g r1 q => en.nx ρ M1 σ H1 (r.go g) g q⟩
def wRet (w : WE) : WS := fun D ρ M => w ρ M D.rt
theorem ds_ret (he : DE X e te we) : DS X E (.Return (some e) pos) (tRet te) (wRet we) := ⟨ps_ret he.pe, fun Z D3 ρ M σ H D r h en => he.sm Z ρ M σ H _ _ r h fun v d H1 M1 g r1 q => en.rt v d H1 M1 g r1 q⟩
def wRetN : WS := fun D _ M => D.rt .non M
def wIfS (c : WT) (w u : WS) : WS := fun D ρ M => c ρ M fun b M1 => if b = true then w D ρ M1 else u D ρ M1
theorem ds_if {c : Expr} {p q : List Stmt} (hc : DT X c tA wA) (hp : DSs X E p ts ws) (hq : DSs X E q tu wu) : DS X E (.If c p q pos) (tIfS tA ts tu) (wIfS wA ws wu) := by
  refine ⟨ps_if hc.pe hp.pe hq.pe, fun Z D3 ρ M σ H D r h en => hc.sm Z ρ M σ H _ _ r h fun b H1 M1 g z => ?_⟩
  cases b with
  | true => exact hp.sm Z D3 ρ M1 σ H1 D (r.go g) z (en.go g)
  | false => exact hq.sm Z D3 ρ M1 σ H1 D (r.go g) z (en.go g)
/-! ### targets -/
abbrev WG := D → En → Mp → (En → Mp → Prop) → Prop
abbrev WGs := List D → En → Mp → (En → Mp → Prop) → Prop
def SimG (K : PySem.W.Frag) (t : TG) (w : WG) : Prop := ∀ (Z : Hp) (v : V) (d : D) (ρ : En) (M : Mp) (σ : L2.St) (H : Hp) (Q : En → Mp → Prop) (Q' : L2.St → Hp → Prop), R3 K Z ρ M σ H → Rep K (fz Z H M) v d → w d ρ M Q → (∀ ρ' M' σ' H', R3 K Z ρ' M' σ' H' → Go K Z H M H' M' → Q ρ' M' → Q' σ' H') → t v σ H Q'
def SimGs (K : PySem.W.Frag) (t : TGs) (w : WGs) : Prop := ∀ (Z : Hp) (v : List V) (d : List D) (ρ : En) (M : Mp) (σ : L2.St) (H : Hp) (Q : En → Mp → Prop) (Q' : L2.St → Hp → Prop), R3 K Z ρ M σ H → RepL K (fz Z H M) v d → w d ρ M Q → (∀ ρ' M' σ' H', R3 K Z ρ' M' σ' H' → Go K Z H M H' M' → Q ρ' M' → Q' σ' H') → t v σ H Q'
structure DG (X : Cx) (e : Expr) (t : TG) (w : WG) : Prop where
  pe : PG X e t
  sm : SimG X.K t w
structure DGs (X : Cx) (e : List Expr) (t : TGs) (w : WGs) : Prop where
  pe : PGs X e t
  sm : SimGs X.K t w
def wgName (i : Nat) : WG := fun d ρ M Q => Q (ρ.set i (some d)) M
theorem sim_gname {K : PySem.W.Frag} (i : Nat) : SimG K (gName i) (wgName i) := fun Z v d ρ M σ H Q Q' r rp h q => q _ M _ H ⟨r.sat, r.env.set i rp⟩ r.refl h
theorem dg_name (i : Nat) {x : Str} (hN : X.N.Nodup) (hi : X.N[i]? = some x := by rfl) (hx : Loc X.env.scope x := by first | exact .inl rfl | exact .inr rfl) (hf : X.fn x = true ∨ X.env.scope.names.lookup x = some .local := by first | exact .inl rfl | exact .inr rfl) : DG X (.Name x pos) (gName i) (wgName i) := ⟨pg_name hN hi hx hf, sim_gname i⟩
def wgNil : WGs := fun ds ρ M Q => ds = [] ∧ Q ρ M
def wgCons (w : WG) (u : WGs) : WGs := fun ds ρ M Q => match ds with
  | [] => False
  | d :: r => w d ρ M fun ρ' M' => u r ρ' M' Q
variable {tg : TG} {wg : WG} {tgs : TGs} {wgs : WGs}
theorem dgs_nil : DGs X [] gNil wgNil := ⟨pgs_nil, fun Z v d ρ M σ H Q Q' r rp h q => by
  obtain ⟨rfl, h⟩ := h
  cases rp
  exact ⟨rfl, q ρ M σ H r r.refl h⟩⟩
theorem dgs_cons (h1 : DG X e tg wg) (h2 : DGs X es tgs wgs) (hs : (assignEach (e :: es) X.env).map (·.2) = assign e X.env :: (assignEach es X.env).map (·.2) := by rfl) : DGs X (e :: es) (gCons tg tgs) (wgCons wg wgs) := by
  refine ⟨pgs_cons h1.pe h2.pe hs, fun Z v d ρ M σ H Q Q' r rp h q => ?_⟩
  cases rp with
  | nil => exact h.elim
  | cons r1 r2 =>
    refine ⟨_, _, rfl, h1.sm Z _ _ ρ M σ H _ _ r r1 h fun ρ1 M1 σ1 H1 s1 g1 z => ?_⟩
    exact h2.sm Z _ _ ρ1 M1 σ1 H1 _ _ s1 (r2.up g1.ex) z fun ρ2 M2 σ2 H2 s2 g2 z2 => q ρ2 M2 σ2 H2 s2 (g1.trans g2) z2
def wgTup (n : Nat) (w : WGs) : WG := fun d ρ M Q => match d with
  | .tup ds => ds.length = n ∧ w ds ρ M Q
  | _ => False
theorem sim_gtup {K : PySem.W.Frag} {n : Nat} (h : SimGs K tgs wgs) : SimG K (gTup K n tgs) (wgTup n wgs) := by
  intro Z v d ρ M σ H Q Q' r rp hw q
  cases d with
  | tup ds =>
    cases rp with
    | tup hs rl => exact ⟨_, _, rfl, sqt_mono fz_sub hs, by rw [rl.len]; exact hw.1, h Z _ _ ρ M σ H _ _ r rl hw.2 q⟩
  | _ => exact hw.elim
theorem dg_tup {es : List Expr} {k : Nat} {n : Nat} (hc : X.calm = true) (h : DGs X es tgs wgs) (hn : (assignEach es X.env).length = n := by rfl) (hst : (assignEach es X.env).findIdx? (·.1) = none := by rfl) : DG X (.Tuple es k pos) (gTup X.K n tgs) (wgTup n wgs) := ⟨pg_tup hc h.pe hn hst, sim_gtup h.sm⟩
/-- o[i] = v of a list of the store -/
def setD (o i v : D) (M : Mp) (Q : Mp → Prop) : Prop := match o, i with
  | .tok a, .int n => ∃ ds j, M a = some (.lst ds) ∧ ixN ds.length n = some j ∧ Q (setM M a (.lst (ds.set j v)))
  | _, _ => False
def wgSub (wo wi : WE) : WG := fun d ρ M Q => wo ρ M fun o M1 => wi ρ M1 fun i M2 => setD o i d M2 fun M3 => Q ρ M3
theorem dg_sub {o i : Expr} {to ti : TE} {wo wi : WE} (ho : DE X o to wo) (hi : DE X i ti wi) (ha : ∀ v, assign (.Subscript o i pos) X.env v = (do
      let ov ← holding [v] (eval o X.env)
      let iv ← holding [v, ov] (eval i X.env)
      standAt pos
      holding [v, ov, iv] (setItem ov iv v)
      release [v, ov, iv] []) := by intro _; rfl) : DG X (.Subscript o i pos) (gSub to ti rSetL) (wgSub wo wi) := by
  refine ⟨pg_sub ho.pe hi.pe set_list ha, fun Z v d ρ M σ H Q Q' r rp hw q => ?_⟩
  refine ho.sm Z ρ M σ H _ _ r hw fun x d1 H1 M1 g1 r1 q1 => ?_
  refine hi.sm Z ρ M1 σ H1 _ _ (r.go g1) q1 fun y d2 H2 M2 g2 r2 q2 => ?_
  unfold setD at q2
  split at q2
  · rename_i a n
    obtain ⟨ds, j, hm, hj, z⟩ := q2
    have r1' := r1.up g2.ex
    cases r1'
    cases r2
    obtain ⟨vs, e1, rl⟩ := g2.sat.cell a _ hm
    have g3 := Go.putL (p := a) g2.sat (.inr ⟨ds, hm⟩) (RepL.set ((rp.up g1.ex).up g2.ex) j rl)
    exact ⟨a, vs, n, j, rfl, rfl, e1, by rw [rl.len]; exact hj, q ρ _ σ _ (r.go ((g1.trans g2).trans g3)) ((g1.trans g2).trans g3) z⟩
  · exact q2.elim
def wAsg (w : WE) (g : WG) : WS := fun D ρ M => w ρ M fun d M1 => g d ρ M1 D.nx
theorem sim_asg {K : PySem.W.Frag} (he : SimE K te we) (hg : SimG K tg wg) : SimS K E (tAsg te tg) (wAsg we wg) := by
  intro Z D3 ρ M σ H D r h en
  refine he Z ρ M σ H _ _ r h fun v d H1 M1 g1 r1 q1 => ?_
  exact hg Z v d ρ M1 σ H1 _ _ (r.go g1) r1 q1 fun ρ2 M2 σ2 H2 s2 g2 z => en.nx ρ2 M2 σ2 H2 s2 (g1.trans g2) z
theorem ds_set (i : Nat) {x : Str} {pos' : Pos} (hN : X.N.Nodup) (he : DE X e te we) (hi : X.N[i]? = some x := by rfl) (hx : Loc X.env.scope x := by first | exact .inl rfl | exact .inr rfl) (hs : swapsWith e (some (.Name x pos')) pos.line X.env = pure false := by rfl)
    (hf : X.fn x = true ∨ X.env.scope.names.lookup x = some .local := by first | exact .inl rfl | exact .inr rfl) : DS X E (.Assign [.Name x pos'] e pos) (tAsg te (gName i)) (wAsg we (wgName i)) := ⟨ps_set hN hi hx he.pe hs hf, sim_asg he.sm (sim_gname i)⟩
theorem ds_asg {tgt : Expr} (he : DE X e te we) (hg : DG X tgt tg wg) (hs : swapsWithSole [tgt] e pos.line X.env = pure false := by rfl) (hw : swappedStores [tgt] e X.env = pure none := by rfl)
    (h1 : (assignEach [tgt] X.env).map (·.2) = [assign tgt X.env] := by rfl) : DS X E (.Assign [tgt] e pos) (tAsg te tg) (wAsg we wg) := ⟨ps_asg he.pe hg.pe hs hw h1, sim_asg he.sm hg.sm⟩
/-- a, b = x, y -/
def wPar (i j : Nat) (w : WA) : WS := fun D ρ M => w ρ M fun ds M1 => match ds with
  | [d, e] => D.nx ((ρ.set i (some d)).set j (some e)) M1
  | _ => False
theorem ds_par (i j : Nat) {x y : Str} {a b : Expr} {px py pt : Pos} {kt k2 pt2} (hc : X.calm = true) (hN : X.N.Nodup) (ha : DA X [a, b] tr wr) (hi : X.N[i]? = some x := by rfl) (hj : X.N[j]? = some y := by rfl) (hij : i ≠ j := by decide)
    (hx : X.env.scope.names.lookup x = some .local := by rfl) (hy : X.env.scope.names.lookup y = some .local := by rfl)
    (hw : swappedStores [.Tuple [.Name x px, .Name y py] kt pt] (.Tuple [a, b] k2 pt2) X.env = pure (some [x, y]) := by rfl)
    (hs : swapsWithSole [.Tuple [.Name x px, .Name y py] kt pt] (.Tuple [a, b] k2 pt2) pos.line X.env = pure false := by rfl) :
    DS X E (.Assign [.Tuple [.Name x px, .Name y py] kt pt] (.Tuple [a, b] k2 pt2) pos) (tPar i j tr) (wPar i j wr) := by
  refine ⟨ps_par hc hN hi hj hij hx hy ha.pe hw hs, fun Z D3 ρ M σ H D r h en => ?_⟩
  refine ha.sm Z ρ M σ H _ _ r h fun vs ds H1 M1 g1 r1 q1 => ?_
  cases r1 with
  | nil => exact q1.elim
  | cons r1 r2 =>
    cases r2 with
    | nil => exact q1.elim
    | cons r2 r3 =>
      cases r3 with
      | nil => exact ⟨_, _, rfl, en.nx _ M1 _ H1 ⟨g1.sat, (((r.go g1).env.set i r1).set j r2)⟩ g1 q1⟩
      | cons _ _ => exact q1.elim
def wPar3 (i j l : Nat) (w : WA) : WS := fun D ρ M => w ρ M fun ds M1 => match ds with
  | [d, e, f] => D.nx (((ρ.set i (some d)).set j (some e)).set l (some f)) M1
  | _ => False
end
end L3
namespace L3
open PySem L2
section
variable {X : Cx} {E : WX3} {e a b c : Expr} {es : List Expr} {t ta tb tc te : TE} {w wa wb wc we : WE} {pos : Pos} {k : Nat} {tr : TA} {wr : WA} {st : Stmt} {rest : List Stmt} {ts tu : TS} {ws wu : WS} {tA : TT} {wA : WT} {tg : TG} {wg : WG} {tgt : Expr}
/-! ### what is walked -/
/-- the iterator yields the data ds, one by one, as long as Ok holds of the store -/
def Walks3 (K : PySem.W.Frag) (Z : Hp) (H : Hp) (M : Mp) (J : It) (ds : List D) (Ok : Mp → Prop) : Prop := ∀ (Z2 H2 : Hp) (M2 : Mp), Sat K Z2 H2 M2 → Same (fz Z H M) (fz Z2 H2 M2) → Ok M2 →
  (∀ (i : Nat) (d : D), ds[i]? = some d → J.go i H2 ∧ ∀ x H3, J.yld i H2 x H3 → Go K Z2 H2 M2 H3 M2 ∧ Rep K (fz Z2 H3 M2) x d) ∧ ∀ i, ds.length ≤ i → J.stop i H2
abbrev WI := En → Mp → (List D → (Mp → Prop) → Mp → Prop) → Prop
def SimI (K : PySem.W.Frag) (t : TI) (w : WI) : Prop := ∀ (Z : Hp) (ρ : En) (M : Mp) (σ : L2.St) (H : Hp) (R : List D → (Mp → Prop) → Mp → Prop) (R' : It → Hp → Prop), R3 K Z ρ M σ H → w ρ M R → (∀ J ds Ok H' M', Go K Z H M H' M' → Walks3 K Z H' M' J ds Ok → R ds Ok M' → R' J H') → t σ H R'
structure DI (X : Cx) (tgt e : Expr) (t : TI) (w : WI) : Prop where
  pe : PI X tgt e t
  sm : SimI X.K t w
def AnyM : Mp → Prop := fun _ => True
/-- a list, a tuple -/
def iSeq (K : PySem.W.Frag) (tl : TE) : TI := fun σ H R => tl σ H fun x J => ∃ p, x = .ref p ∧ (((∃ xs, SqL K J p xs) ∧ R (Itl K p) J) ∨ ((∃ xs, SqT K J p xs) ∧ R (Itt K p) J))
theorem pi_seq {l : Expr} {tl : TE} (hl : PE X l tl) : PI X tgt l (iSeq X.K tl) := by
  constructor
  intro pins s σ H R I h
  refine thn (hl.run pins s σ H _ I h) fun v s1 ⟨x, H1, I1, r1, p, e, q1⟩ => ?_
  subst e
  cases r1
  rcases q1 with ⟨⟨xs, hq⟩, q⟩ | ⟨⟨xs, hq⟩, q⟩
  · obtain ⟨its, rv, pl, hz⟩ := I1.list hq
    refine wpAny_pyIter_list pl.isList ?_
    refine ⟨s1.heap.objs.size, [s1.heap.objs.size], _, _, H1, rfl, I1.kept (t' := s1.toks) fun b o e => Heap.get?_push_of_some _ e, turn_list p _, ⟨_, Heap.get?_push_size _ rfl, rfl, rfl⟩, fun b hb => ?_, q⟩
    obtain rfl : b = s1.heap.objs.size := by simpa using hb
    exact I1.fpOk (Nat.le_refl _) (I1.hok.fresh (Nat.le_refl _))
  · obtain ⟨its, rv, pl, hz⟩ := I1.tuple hq
    refine wpAny_pyIter_tuple (show s1.heap.IsTuple p its.toArray from pl) ?_
    refine ⟨s1.heap.objs.size, [s1.heap.objs.size], _, _, H1, rfl, I1.kept (t' := s1.toks) fun b o e => Heap.get?_push_of_some _ e, turn_tuple p _, ⟨_, Heap.get?_push_size _ rfl, rfl, rfl⟩, fun b hb => ?_, q⟩
    obtain rfl : b = s1.heap.objs.size := by simpa using hb
    exact I1.fpOk (Nat.le_refl _) (I1.hok.fresh (Nat.le_refl _))
def wiSeq (w : WE) : WI := fun ρ M R => w ρ M fun d M1 => match d with
  | .tup ds => R ds AnyM M1
  | .lst ds => R ds AnyM M1
  | .tok p => ∃ ds, M1 p = some (.lst ds) ∧ R ds (fun M2 => M2 p = some (.lst ds)) M1
  | _ => False
theorem walks_l {K : PySem.W.Frag} {Z H : Hp} {M : Mp} {p : Addr} {vs : List V} {ds : List D} (h : SqL K (fz Z H M) p vs) (r : RepL K (fz Z H M) vs ds) : Walks3 K Z H M (Itl K p) ds AnyM := by
  intro Z2 H2 M2 S ex _
  have hq : SqL K H2 p vs := (ex.trans fz_sub).seq h
  refine ⟨fun i d e => ?_, fun i hi => ⟨vs, hq, by rw [r.len]; exact hi⟩⟩
  obtain ⟨v, e1, rp⟩ := r.get e
  refine ⟨⟨vs, v, hq, e1⟩, fun x H3 ⟨e2, y⟩ => ?_⟩
  subst e2
  obtain rfl : x = v := Option.some.inj ((y vs hq).symm.trans e1)
  exact ⟨Go.refl S, rp.up ex⟩
theorem walks_t {K : PySem.W.Frag} {Z H : Hp} {M : Mp} {p : Addr} {vs : List V} {ds : List D} (h : SqT K (fz Z H M) p vs) (r : RepL K (fz Z H M) vs ds) : Walks3 K Z H M (Itt K p) ds AnyM := by
  intro Z2 H2 M2 S ex _
  have hq : SqT K H2 p vs := sqt_mono (ex.trans fz_sub) h
  refine ⟨fun i d e => ?_, fun i hi => ⟨vs, hq, by rw [r.len]; exact hi⟩⟩
  obtain ⟨v, e1, rp⟩ := r.get e
  refine ⟨⟨vs, v, hq, e1⟩, fun x H3 ⟨e2, y⟩ => ?_⟩
  subst e2
  obtain rfl : x = v := Option.some.inj ((y vs hq).symm.trans e1)
  exact ⟨Go.refl S, rp.up ex⟩
theorem walks_m {K : PySem.W.Frag} {Z H : Hp} {M : Mp} {p : Addr} {ds : List D} : Walks3 K Z H M (Itl K p) ds (fun M2 => M2 p = some (.lst ds)) := by
  intro Z2 H2 M2 S ex ok
  obtain ⟨vs, e0, r⟩ := S.cell p _ ok
  have hq : SqL K H2 p vs := .inl (.inl e0)
  refine ⟨fun i d e => ?_, fun i hi => ⟨vs, hq, by rw [r.len]; exact hi⟩⟩
  obtain ⟨v, e1, rp⟩ := r.get e
  refine ⟨⟨vs, v, hq, e1⟩, fun x H3 ⟨e2, y⟩ => ?_⟩
  subst e2
  have e3 := y vs hq
  obtain rfl : x = v := Option.some.inj (e3.symm.trans e1)
  exact ⟨Go.refl S, rp⟩
theorem di_seq (h : DE X e te we) : DI X tgt e (iSeq X.K te) (wiSeq we) := by
  refine ⟨pi_seq h.pe, fun Z ρ M σ H R R' s hw q => ?_⟩
  refine h.sm Z ρ M σ H _ _ s hw fun x d H1 M1 g1 r1 q1 => ?_
  cases d with
  | tup ds =>
    cases r1 with
    | tup hs rl => exact ⟨_, rfl, .inr ⟨⟨_, sqt_mono fz_sub hs⟩, q _ _ _ H1 M1 g1 (walks_t hs rl) q1⟩⟩
  | lst ds =>
    cases r1 with
    | lst hs rl => exact ⟨_, rfl, .inl ⟨⟨_, fz_sub.seq hs⟩, q _ _ _ H1 M1 g1 (walks_l hs rl) q1⟩⟩
  | tok p =>
    cases r1
    obtain ⟨ds, hm, z⟩ := q1
    obtain ⟨vs, e1, rl⟩ := g1.sat.cell p _ hm
    exact ⟨_, rfl, .inl ⟨⟨vs, .inl (.inl e1)⟩, q _ _ _ H1 M1 g1 walks_m z⟩⟩
  | _ => exact q1.elim
/-- range(n), range(a, b) -/
def intsD (lo : Int) (n : Nat) : List D := (List.range n).map fun (i : Nat) => D.int (lo + (i : Int))
theorem walks_r {K : PySem.W.Frag} {Z H : Hp} {M : Mp} (lo : Int) (n : Nat) : Walks3 K Z H M (Itr lo n) (intsD lo n) AnyM := by
  intro Z2 H2 M2 S ex _
  refine ⟨fun i d e => ?_, fun i hi => ?_⟩
  · have hi : i < n := by
      have z := (List.getElem?_eq_some_iff.mp e).1
      unfold intsD at z
      rw [List.length_map, List.length_range] at z
      exact z
    have ed : d = .int (lo + (i : Int)) := by
      unfold intsD at e
      rw [List.getElem?_map, List.getElem?_range hi] at e
      exact (Option.some.inj e).symm
    subst ed
    refine ⟨hi, fun x H3 ⟨e1, e2⟩ => ?_⟩
    subst e1
    subst e2
    exact ⟨Go.refl S, .int _⟩
  · unfold intsD at hi
    rw [List.length_map, List.length_range] at hi
    exact hi
def wiRange1 (w : WA) : WI := fun ρ M R => w ρ M fun ds M1 => match ds with
  | [.int j] => j < 2 ^ 62 ∧ -(2 ^ 62) ≤ j ∧ R (intsD 0 j.toNat) AnyM M1
  | _ => False
theorem di_range1 {p : Pos} (hm : X.mg "range" = none) (ha : DA X [a] tr wr) (hg : Gl X "range" := by rfl) (hs : starEach [a] X.env = [(false, eval a X.env)] := by rfl) : DI X tgt (.Call (.Name "range" p) [a] [] pos) (iRng1 tr) (wiRange1 wr) := by
  refine ⟨pi_range1 hg hm ha.pe hs, fun Z ρ M σ H R R' s hw q => ?_⟩
  refine ha.sm Z ρ M σ H _ _ s hw fun xs ds H1 M1 g1 r1 q1 => ?_
  unfold wiRange1 at hw
  split at q1
  · cases r1 with
    | cons r1 r2 =>
      cases r1
      cases r2
      exact ⟨_, rfl, q1.2.1, q1.1, q _ _ _ H1 M1 g1 (walks_r _ _) q1.2.2⟩
  · exact q1.elim
/-! ### for -/
def wLoop (g : WG) (wb : WS) (Ok : Mp → Prop) (D3 : Ends3) : List D → En → Mp → Prop
  | [], ρ, M => Ok M ∧ D3.nx ρ M
  | d :: ds, ρ, M => Ok M ∧ g d ρ M fun ρ1 M1 => wb { D3 with nx := wLoop g wb Ok D3 ds, ct := wLoop g wb Ok D3 ds, bk := D3.nx } ρ1 M1
def wFor (wi : WI) (g : WG) (wb : WS) : WS := fun D3 ρ M => wi ρ M fun ds Ok M1 => wLoop g wb Ok D3 ds ρ M1
theorem sim_for {ti : TI} {wi : WI} (K : PySem.W.Frag) (hi : SimI K ti wi) (hg : SimG K tg wg) (hb : SimS K E ts ws) : SimS K E (tFor ti tg ts) (wFor wi wg ws) := by
  intro Z D3 ρ M σ H D r h en
  refine hi Z ρ M σ H _ _ r h fun J ds Ok H1 M1 g1 wk q1 => ?_
  refine ⟨fun i m σ' H' => m + i = ds.length ∧ ∃ ρ' M', R3 K Z ρ' M' σ' H' ∧ Go K Z H1 M1 H' M' ∧ wLoop wg ws Ok D3 (ds.drop i) ρ' M', ⟨ds.length, rfl, ρ, M1, r.go g1, Go.refl g1.sat, q1⟩, fun i m σ' H' ⟨em, ρ', M', r', g', l⟩ => ?_⟩
  by_cases hlt : i < ds.length
  · have e : ds.drop i = ds[i] :: ds.drop (i + 1) := List.drop_eq_getElem_cons hlt
    rw [e] at l
    obtain ⟨ok, l⟩ := l
    obtain ⟨go, yl⟩ := (wk Z H' M' g'.sat g'.ex ok).1 i ds[i] (List.getElem?_eq_getElem hlt)
    refine .inr ⟨go, fun σ2 H2 => ∃ ρ2 M2, R3 K Z ρ2 M2 σ2 H2 ∧ Go K Z H1 M1 H2 M2 ∧ wLoop wg ws Ok D3 (ds.drop (i + 1)) ρ2 M2, fun σ2 H2 ⟨ρ2, M2, r2, g2, l2⟩ => ⟨m - 1, by omega, by omega, ρ2, M2, r2, g2, l2⟩, fun x H3 hy => ?_⟩
    obtain ⟨g3, rp⟩ := yl x H3 hy
    refine hg Z x _ ρ' M' σ' H3 _ _ (r'.go g3) rp l fun ρ4 M4 σ4 H4 r4 g4 z => ?_
    have g14 := (g'.trans g3).trans g4
    refine hb Z _ ρ4 M4 σ4 H4 _ r4 z ⟨fun ρ5 M5 σ5 H5 r5 g5 z5 => ⟨ρ5, M5, r5, g14.trans g5, z5⟩, fun v d H5 M5 g5 rp5 z5 => en.rt v d H5 M5 ((g1.trans g14).trans g5) rp5 z5,
      fun ρ5 M5 σ5 H5 r5 g5 z5 => en.nx ρ5 M5 σ5 H5 r5 ((g1.trans g14).trans g5) z5, fun ρ5 M5 σ5 H5 r5 g5 z5 => ⟨ρ5, M5, r5, g14.trans g5, z5⟩, fun x C dx vs fs ρ5 σ5 H5 M5 ca5 r5 g5 e5 l5 rf5 z5 => en.xr x C dx vs fs ρ5 σ5 H5 M5 ca5 r5 ((g1.trans g14).trans g5) e5 l5 rf5 z5⟩
  · have e : ds.drop i = [] := List.drop_eq_nil_of_le (by omega)
    rw [e] at l
    exact .inl ⟨(wk Z H' M' g'.sat g'.ex l.1).2 i (by omega), en.nx ρ' M' σ' H' r' (g1.trans g') l.2⟩
theorem ds_for {ti : TI} {wi : WI} {body : List Stmt} (hp : PassesOwn (model X.prog X.w) X.A X.env X.xe) (hc : X.calm = true) (hi : DI X tgt e ti wi) (hg : DG X tgt tg wg) (hb : DSs X E body ts ws) (hs : ∀ x, foldedSetIterable e X.env x = pure x := by intro _; rfl) :
    DS X E (.For tgt e body [] pos) (tFor ti tg ts) (wFor wi wg ws) := ⟨ps_for hp hc hi.pe hg.pe hb.pe hs, sim_for X.K hi.sm hg.sm hb.sm⟩
/-! ### while -/
end
end L3
namespace L3
open PySem L2
section
variable {X : Cx} {E : WX3} {e a b c elt iter tgt : Expr} {es ifs : List Expr} {t ta tb tc te : TE} {w wa wb wc we : WE} {pos : Pos} {k : Nat} {tr : TA} {wr : WA} {tt : TT} {wt : WT} {tg : TG} {wg : WG} {ti : TI} {wi : WI}
/-! ### comprehensions -/
def wipeE (ρ : En) : List Nat → En
  | [] => ρ
  | v :: vs => (wipeE ρ vs).set v none
theorem wipe_rel {K : PySem.W.Frag} {H : Hp} {σ : L2.St} {ρ : En} (r : RelS K H σ ρ) : ∀ vs : List Nat, RelS K H (wipe σ vs) (wipeE ρ vs)
  | [] => r
  | v :: vs => by
    have ih := wipe_rel r vs
    refine ⟨by show ((wipe σ vs).set v none).length = ((wipeE ρ vs).set v none).length; rw [List.length_set, List.length_set]; exact ih.1, fun i d q => ?_⟩
    have q' : ((wipeE ρ vs).set v none)[i]? = some (some d) := q
    by_cases hi : v = i
    · subst hi
      rw [List.getElem?_set_self'] at q'
      cases z : (wipeE ρ vs)[v]? with
      | none =>
        rw [z] at q'
        cases q'
      | some o =>
        rw [z] at q'
        cases q'
    · rw [List.getElem?_set_ne hi] at q'
      obtain ⟨u, h1, h2⟩ := ih.2 i d q'
      exact ⟨u, by show ((wipe σ vs).set v none)[i]? = _; rw [List.getElem?_set_ne hi]; exact h1, h2⟩
theorem wipe_set {σ : L2.St} {j : Nat} {o : Option V} : ∀ {vs : List Nat}, j ∈ vs → wipe (σ.set j o) vs = wipe σ vs
  | v :: vs, h => by
    show (wipe (σ.set j o) vs).set v none = (wipe σ vs).set v none
    by_cases hm : j ∈ vs
    · rw [wipe_set hm]
    · have hj : j = v := (List.mem_cons.mp h).resolve_right hm
      subst hj
      have cm : ∀ (us : List Nat), wipe (σ.set j o) us = wipe σ us ∨ wipe (σ.set j o) us = (wipe σ us).set j o := fun us => by
        induction us with
        | nil => exact .inr rfl
        | cons u us ih =>
          rcases ih with h1 | h1
          · left
            show (wipe (σ.set j o) us).set u none = (wipe σ us).set u none
            rw [h1]
          · by_cases hu : u = j
            · subst hu
              left
              show (wipe (σ.set u o) us).set u none = (wipe σ us).set u none
              rw [h1, List.set_set]
            · right
              show (wipe (σ.set j o) us).set u none = ((wipe σ us).set u none).set j o
              rw [h1, List.set_comm _ _ (Ne.symm hu)]
      rcases cm vs with h1 | h1
      · rw [h1]
      · rw [h1, List.set_set]
/-- the target stores into the block's own slots alone -/
def KeepG (vs : List Nat) (tg : TG) : Prop := ∀ (v : V) (σ0 σ : L2.St) (H : Hp) (Q : L2.St → Hp → Prop), wipe σ vs = σ0 → tg v σ H Q → tg v σ H fun σ2 H2 => wipe σ2 vs = σ0 ∧ Q σ2 H2
theorem keep_name {vs : List Nat} {j : Nat} (h : j ∈ vs := by decide) : KeepG vs (gName j) := fun v σ0 σ H Q e q => ⟨by rw [wipe_set h]; exact e, q⟩
structure DTs (X : Cx) (ifs : List Expr) (t : TT) (w : WT) : Prop where
  pe : PTs X ifs t
  sm : SimT X.K t w
def wYes : WT := fun _ M Q => Q true M
theorem dts_nil : DTs X [] tYes wYes := ⟨pts_nil, fun Z ρ M σ H Q Q' s h q => q true H M s.refl h⟩
theorem dts_one (h : DT X e tt wt) : DTs X [e] tt wt := ⟨pts_one h.pe, h.sm⟩
def wLcL (g : WG) (wt : WT) (we : WE) (Ok : Mp → Prop) (ρ : En) : List D → List D → Mp → KD → Prop
  | [], acc, M, Q => Ok M ∧ Q (.lst acc) M
  | d :: ds, acc, M, Q => Ok M ∧ acc.length < sizeLine ∧ g d ρ M fun ρ1 M1 => wt ρ1 M1 fun b M2 => if b = true then we ρ1 M2 fun y M3 => wLcL g wt we Ok ρ ds (acc ++ [y]) M3 Q else wLcL g wt we Ok ρ ds acc M2 Q
def wLc (wi : WI) (g : WG) (wt : WT) (we : WE) (vs : List Nat) : WE := fun ρ M Q => wi ρ M fun ds Ok M1 => wLcL g wt we Ok (wipeE ρ vs) ds [] M1 Q
theorem sim_lc {K : PySem.W.Frag} {vs : List Nat} (hi : SimI K ti wi) (hg : SimG K tg wg) (ht : SimT K tt wt) (he : SimE K te we) (kp : KeepG vs tg) : SimE K (tLc ti tg tt te vs) (wLc wi wg wt we vs) := by
  intro Z ρ M σ H Q Q' r h q
  refine hi Z ρ M σ H _ _ r h fun J ds Ok H1 M1 g1 wk q1 => ?_
  intro D hD
  have m1 := g1.sat.free hD
  have z1 := g1.sat.freeZ hD
  have f1 : fz Z H1 M1 D = none := by
    rw [fz_none m1 z1]
    exact hD
  have s0 := Sat.swap (Z' := upd Z D (.lst [])) (H' := upd H1 D (.lst [])) g1.sat m1 f1 (fun b hb => upd_ne hb) (fun b hb => upd_ne hb) (fun o e => by rw [upd_same] at e ⊢; exact e)
  refine ⟨fun i m H' => m + i = ds.length ∧ ∃ (acc : List L3.D) (va : List V) (M' : Mp), Sat K (upd Z D (.lst va)) H' M' ∧ Same (fz Z H1 M1) (fz (upd Z D (.lst va)) H' M') ∧ RepL K (fz (upd Z D (.lst va)) H' M') va acc ∧ wLcL wg wt we Ok (wipeE ρ vs) (ds.drop i) acc M' Q,
    ⟨ds.length, rfl, [], [], M1, s0.1, s0.2, .nil, q1⟩, fun i m H' ⟨em, acc, va, M', S, ex, ra, l⟩ => ?_⟩
  have zd : upd Z D (.lst va) D = some (.lst va) := upd_same
  by_cases hlt : i < ds.length
  · have e : ds.drop i = ds[i] :: ds.drop (i + 1) := List.drop_eq_getElem_cons hlt
    rw [e] at l
    obtain ⟨ok, hacc, l⟩ := l
    obtain ⟨go, yl⟩ := (wk _ H' M' S ex ok).1 i ds[i] (List.getElem?_eq_getElem hlt)
    refine .inr ⟨go, fun H2 => ∃ (acc : List L3.D) (va : List V) (M' : Mp), Sat K (upd Z D (.lst va)) H2 M' ∧ Same (fz Z H1 M1) (fz (upd Z D (.lst va)) H2 M') ∧ RepL K (fz (upd Z D (.lst va)) H2 M') va acc ∧ wLcL wg wt we Ok (wipeE ρ vs) (ds.drop (i + 1)) acc M' Q,
      fun H2 z => ⟨m - 1, by omega, by omega, z⟩, fun x H3 hy => ?_⟩
    obtain ⟨g3, rp⟩ := yl x H3 hy
    have r3 : R3 K (upd Z D (.lst va)) (wipeE ρ vs) M' (wipe σ vs) H3 := ⟨g3.sat, (wipe_rel (r.env.up g1.ex) vs).up (ex.trans g3.ex)⟩
    have ww : wipe (wipe σ vs) vs = wipe σ vs := by
      have idem : ∀ us : List Nat, (∀ u ∈ us, u ∈ vs) → wipe (wipe σ us) vs = wipe σ vs := fun us => by
        induction us with
        | nil => intro _; rfl
        | cons u us ih =>
          intro hu
          show wipe ((wipe σ us).set u none) vs = _
          rw [wipe_set (hu u List.mem_cons_self)]
          exact ih fun y hy => hu y (List.mem_cons_of_mem _ hy)
      exact idem vs fun u hu => hu
    refine kp x _ _ H3 _ ww ?_
    refine hg _ x _ _ M' _ H3 _ _ r3 rp l fun ρ4 M4 σ4 H4 r4 g4 z => ?_
    refine ht _ ρ4 M4 σ4 H4 _ _ r4 z fun b H5 M5 g5 z5 => ?_
    have g35 := (g3.trans g4).trans g5
    cases b with
    | true =>
      rw [if_pos rfl] at z5 ⊢
      refine he _ ρ4 M5 σ4 H5 _ _ (r4.go g5) z5 fun y d H6 M6 g6 r6 z6 => ?_
      have g36 := g35.trans g6
      have h6 := g36.sat.zed D _ zd
      refine ⟨va, h6.1, by rw [ra.len]; exact hacc, ?_⟩
      have s6 := Sat.swap (Z' := upd Z D (.lst (va ++ [y]))) (H' := upd H6 D (.lst (va ++ [y]))) g36.sat h6.2 (fz_hid zd) (fun b hb => upd_ne hb) (fun b hb => by rw [upd_ne hb, upd_ne hb]) (fun o e => by rw [upd_same] at e ⊢; exact e)
      exact ⟨acc ++ [d], va ++ [y], M6, s6.1, (ex.trans g36.ex).trans s6.2, ((ra.up g36.ex).up s6.2).app (.cons (r6.up s6.2) .nil), z6⟩
    | false =>
      rw [if_neg Bool.false_ne_true] at z5 ⊢
      exact ⟨acc, va, M5, g35.sat, ex.trans g35.ex, ra.up g35.ex, z5⟩
  · have e : ds.drop i = [] := List.drop_eq_nil_of_le (by omega)
    rw [e] at l
    have hd := S.zed D _ zd
    have s2 := Sat.swap (Z' := Z) (H' := H') S hd.2 (fz_hid zd) (fun b hb => rfl) (fun b hb => by rw [upd_ne hb]) (fun o e => by rw [z1] at e; cases e)
    refine .inl ⟨(wk _ H' M' S ex l.1).2 i (by omega), ?_⟩
    exact q _ _ H' M' ⟨s2.1, (g1.ex.trans ex).trans s2.2⟩ (.lst (.inl (.inl (fz_to hd.2 z1 hd.1))) (ra.up s2.2)) l.2
theorem de_lc0 {scope : Scope} {own : List (Str × Nat)} (hc : X.calm = true) (hN : X.N.Nodup) (hi : DI X tgt iter ti wi) (ok : BlkOk X.N X.env.scope scope own)
    (hg : ∀ (s : Shared) (H : Hp) (C : Addr) (cl : List (Str × Addr)) (fp : List Addr), DG (X.blk s H scope (compEnvC scope cl C X.env) fp) tgt tg wg) (ht : ∀ (s : Shared) (H : Hp) (C : Addr) (cl : List (Str × Addr)) (fp : List Addr), DTs (X.blk s H scope (compEnvC scope cl C X.env) fp) ifs tt wt)
    (he : ∀ (s : Shared) (H : Hp) (C : Addr) (cl : List (Str × Addr)) (fp : List Addr), DE (X.blk s H scope (compEnvC scope cl C X.env) fp) elt te we) (kp : KeepG (own.map (·.2)) tg) (hs : ∀ x, foldedSetIterable iter X.env x = pure x := by intro _; rfl) :
    DE X (.ListComp elt [⟨tgt, iter, ifs, 0⟩] scope pos) (tLc ti tg tt te (own.map (·.2))) (wLc wi wg wt we (own.map (·.2))) :=
  ⟨pe_lc hc hN hi.pe ok (fun s H C cl fp => (hg s H C cl fp).pe) (fun s H C cl fp => (ht s H C cl fp).pe) (fun s H C cl fp => (he s H C cl fp).pe) hs, sim_lc hi.sm (hg X.s_0 X.H_0 0 [] []).sm (ht X.s_0 X.H_0 0 [] []).sm (he X.s_0 X.H_0 0 [] []).sm kp⟩
/-- name = [..] on one line -/
theorem ds_setLc0 (i : Nat) {y : Str} {py : Pos} {scope : Scope} {own : List (Str × Nat)} {spos : Pos} (hc : X.calm = true) (hN : X.N.Nodup)
    (hi : DI X tgt iter ti wi) (ok : BlkOk X.N X.env.scope scope own)
    (hg : ∀ (s : Shared) (H : Hp) (C : Addr) (cl : List (Str × Addr)) (fp : List Addr), DG (X.blk s H scope (compEnvC scope cl C X.env) fp) tgt tg wg) (ht : ∀ (s : Shared) (H : Hp) (C : Addr) (cl : List (Str × Addr)) (fp : List Addr), DTs (X.blk s H scope (compEnvC scope cl C X.env) fp) ifs tt wt)
    (he : ∀ (s : Shared) (H : Hp) (C : Addr) (cl : List (Str × Addr)) (fp : List Addr), DE (X.blk s H scope (compEnvC scope cl C X.env) fp) elt te we) (kp : KeepG (own.map (·.2)) tg)
    (hsw : swapsWith (.ListComp elt [⟨tgt, iter, ifs, 0⟩] scope pos) (some (.Name y py)) spos.line X.env = pure true) (hy : X.N[i]? = some y := by rfl) (hyl : X.env.scope.names.lookup y = some .local := by rfl) (hs : ∀ x, foldedSetIterable iter X.env x = pure x := by intro _; rfl) :
    DS X E (.Assign [.Name y py] (.ListComp elt [⟨tgt, iter, ifs, 0⟩] scope pos) spos) (tAsg (tLc ti tg tt te (own.map (·.2))) (gName i)) (wAsg (wLc wi wg wt we (own.map (·.2))) (wgName i)) :=
  ⟨ps_setLc hc hN hy hyl hsw hi.pe ok (fun s H C cl fp => (hg s H C cl fp).pe) (fun s H C cl fp => (ht s H C cl fp).pe) (fun s H C cl fp => (he s H C cl fp).pe) hs, sim_asg (sim_lc hi.sm (hg X.s_0 X.H_0 0 [] []).sm (ht X.s_0 X.H_0 0 [] []).sm (he X.s_0 X.H_0 0 [] []).sm kp) (sim_gname i)⟩
section
variable {scope : Scope} {own : List (Str × Nat)} {gF : Shared → Hp → Addr → List (Str × Addr) → List Addr → TG} {tF : Shared → Hp → Addr → List (Str × Addr) → List Addr → TT} {eF : Shared → Hp → Addr → List (Str × Addr) → List Addr → TE}
theorem de_lc (hc : X.calm = true) (hN : X.N.Nodup) (hi : DI X tgt iter ti wi) (ok : BlkOk X.N X.env.scope scope own)
    (hg : ∀ (s : Shared) (H : Hp) (C : Addr) (cl : List (Str × Addr)) (fp : List Addr), DG (X.blk s H scope (compEnvC scope cl C X.env) fp) tgt (gF s H C cl fp) wg) (ht : ∀ (s : Shared) (H : Hp) (C : Addr) (cl : List (Str × Addr)) (fp : List Addr), DTs (X.blk s H scope (compEnvC scope cl C X.env) fp) ifs (tF s H C cl fp) wt)
    (he : ∀ (s : Shared) (H : Hp) (C : Addr) (cl : List (Str × Addr)) (fp : List Addr), DE (X.blk s H scope (compEnvC scope cl C X.env) fp) elt (eF s H C cl fp) we) (kp : KeepG (own.map (·.2)) (gF X.s_0 X.H_0 0 [] [])) (hs : ∀ x, foldedSetIterable iter X.env x = pure x := by intro _; rfl)
    (qg : ∀ s H C cl fp, gF s H C cl fp = gF X.s_0 X.H_0 0 [] [] := by intros; rfl) (qt : ∀ s H C cl fp, tF s H C cl fp = tF X.s_0 X.H_0 0 [] [] := by intros; rfl) (qe : ∀ s H C cl fp, eF s H C cl fp = eF X.s_0 X.H_0 0 [] [] := by intros; rfl) :
    DE X (.ListComp elt [⟨tgt, iter, ifs, 0⟩] scope pos) (tLc ti (gF X.s_0 X.H_0 0 [] []) (tF X.s_0 X.H_0 0 [] []) (eF X.s_0 X.H_0 0 [] []) (own.map (·.2))) (wLc wi wg wt we (own.map (·.2))) :=
  de_lc0 hc hN hi ok (fun s H C cl fp => qg s H C cl fp ▸ hg s H C cl fp) (fun s H C cl fp => qt s H C cl fp ▸ ht s H C cl fp) (fun s H C cl fp => qe s H C cl fp ▸ he s H C cl fp) kp hs
theorem ds_setLc (i : Nat) {y : Str} {py : Pos} {spos : Pos} (hc : X.calm = true) (hN : X.N.Nodup) (hi : DI X tgt iter ti wi) (ok : BlkOk X.N X.env.scope scope own)
    (hg : ∀ (s : Shared) (H : Hp) (C : Addr) (cl : List (Str × Addr)) (fp : List Addr), DG (X.blk s H scope (compEnvC scope cl C X.env) fp) tgt (gF s H C cl fp) wg) (ht : ∀ (s : Shared) (H : Hp) (C : Addr) (cl : List (Str × Addr)) (fp : List Addr), DTs (X.blk s H scope (compEnvC scope cl C X.env) fp) ifs (tF s H C cl fp) wt)
    (he : ∀ (s : Shared) (H : Hp) (C : Addr) (cl : List (Str × Addr)) (fp : List Addr), DE (X.blk s H scope (compEnvC scope cl C X.env) fp) elt (eF s H C cl fp) we) (kp : KeepG (own.map (·.2)) (gF X.s_0 X.H_0 0 [] []))
    (hsw : swapsWith (.ListComp elt [⟨tgt, iter, ifs, 0⟩] scope pos) (some (.Name y py)) spos.line X.env = pure true) (hy : X.N[i]? = some y := by rfl) (hyl : X.env.scope.names.lookup y = some .local := by rfl) (hs : ∀ x, foldedSetIterable iter X.env x = pure x := by intro _; rfl)
    (qg : ∀ s H C cl fp, gF s H C cl fp = gF X.s_0 X.H_0 0 [] [] := by intros; rfl) (qt : ∀ s H C cl fp, tF s H C cl fp = tF X.s_0 X.H_0 0 [] [] := by intros; rfl) (qe : ∀ s H C cl fp, eF s H C cl fp = eF X.s_0 X.H_0 0 [] [] := by intros; rfl) :
    DS X E (.Assign [.Name y py] (.ListComp elt [⟨tgt, iter, ifs, 0⟩] scope pos) spos) (tAsg (tLc ti (gF X.s_0 X.H_0 0 [] []) (tF X.s_0 X.H_0 0 [] []) (eF X.s_0 X.H_0 0 [] []) (own.map (·.2))) (gName i)) (wAsg (wLc wi wg wt we (own.map (·.2))) (wgName i)) :=
  ds_setLc0 i hc hN hi ok (fun s H C cl fp => qg s H C cl fp ▸ hg s H C cl fp) (fun s H C cl fp => qt s H C cl fp ▸ ht s H C cl fp) (fun s H C cl fp => qe s H C cl fp ▸ he s H C cl fp) kp hsw hy hyl hs
end
/-! ### built-in functions -/
abbrev FC := List D → Mp → KD → Prop
def SimC (K : PySem.W.Frag) (r : List V → Hp → VK → Prop) (f : FC) : Prop := ∀ (Z : Hp) (xs : List V) (ds : List D) (H : Hp) (M : Mp) (Q : KD) (Q' : VK), Sat K Z H M → RepL K (fz Z H M) xs ds → f ds M Q → (∀ v d' H' M', Go K Z H M H' M' → Rep K (fz Z H' M') v d' → Q d' M' → Q' v H') → r xs H Q'
def wCB (f : FC) (r : WA) : WE := fun ρ M Q => r ρ M fun ds M1 => f ds M1 Q
theorem sim_CB {K : PySem.W.Frag} {r : List V → Hp → VK → Prop} {f : FC} (ha : SimA K tr wr) (hs : SimC K r f) : SimE K (tCB r tr) (wCB f wr) := by
  intro Z ρ M σ H Q Q' s h q
  refine ha Z ρ M σ H _ _ s h fun xs ds H1 M1 g1 r1 q1 => ?_
  exact hs Z xs ds H1 M1 Q Q' g1.sat r1 q1 fun v d H2 M2 g2 r2 q2 => q v d H2 M2 (g1.trans g2) r2 q2
theorem de_callB {x : Str} {p : Pos} {id : String} {r : List V → Hp → VK → Prop} {f : FC} (hc : CallR X (.builtin id) r) (hs : SimC X.K r f) (hm : X.mg x = none) (hv : bootBuiltins x = some (.builtin id)) (ha : DA X (e :: es) tr wr) (hg : Gl X x := by rfl) (hn : x ≠ "__name__" := by decide) (hdb : (x == ("__debug__" : Str)) = false := by decide)
    (he : starEach (e :: es) X.env = (false, eval e X.env) :: starEach es X.env := by rfl) (hpl : (backTo pos (starEach es X.env)).any (·.1) = false := by rfl) : DE X (.Call (.Name x p) (e :: es) [] pos) (tCB r tr) (wCB f wr) := ⟨pe_callB hc hg hm hv ha.pe hn hdb he hpl, sim_CB ha.sm hs⟩
theorem de_callTy {x : Str} {p : Pos} {T : String} {r : List V → Hp → VK → Prop} {f : FC} (hc : CallR X (.type T) r) (hs : SimC X.K r f) (hm : X.mg x = none) (hv : bootBuiltins x = some (.type T)) (ha : DA X (e :: es) tr wr) (hg : Gl X x := by rfl) (hn : x ≠ "__name__" := by decide) (hdb : (x == ("__debug__" : Str)) = false := by decide)
    (he : starEach (e :: es) X.env = (false, eval e X.env) :: starEach es X.env := by rfl) (hpl : (backTo pos (starEach es X.env)).any (·.1) = false := by rfl) : DE X (.Call (.Name x p) (e :: es) [] pos) (tCB r tr) (wCB f wr) := ⟨pe_callTy hc hg hm hv ha.pe hn hdb he hpl, sim_CB ha.sm hs⟩
/-- repr -/
def fRepr : FC := fun ds M Q => match ds with
  | [d] => (∃ n, n ≤ 60 ∧ shw n (res M d)) ∧ cost (res M d) ≤ 16000000 ∧ Q (.str (shown (res M d))) M
  | _ => False
theorem sim_repr {K : PySem.W.Frag} : SimC K (fun xs H Q => ∃ (x : V) (d : D) (n : Nat), xs = [x] ∧ Rep K H x d ∧ shw n d ∧ n ≤ 60 ∧ cost d ≤ 16000000 ∧ Q (.str (shown d)) H) fRepr := by
  intro Z xs ds H M Q Q' S r f q
  unfold fRepr at f
  split at f
  · cases r with
    | cons r1 r2 =>
      cases r2
      obtain ⟨⟨n, hn, hs⟩, hc, z⟩ := f
      exact ⟨_, _, n, rfl, res_rep S r1, hs, hn, hc, q _ _ H M (Go.refl S) (.str _) z⟩
  · exact f.elim
/-- len -/
def fLen : FC := fun ds M Q => match ds with
  | [.str x] => x.length ≤ sizeLine ∧ Q (.int (x.length : Int)) M
  | [d] => ∃ es, seqD M d = some es ∧ Q (.int (es.length : Int)) M
  | _ => False
def rLenA (K : PySem.W.Frag) : List V → Hp → VK → Prop := fun xs H Q => (∃ p ys, xs = [.ref p] ∧ (SqL K H p ys ∨ SqT K H p ys) ∧ Q (.int ys.length) H) ∨ ∃ z, xs = [.str z] ∧ z.length ≤ sizeLine ∧ Q (.int z.length) H
theorem call_lenA : CallR X (.builtin "len") (rLenA X.K) := call_len_seq.or call_len_str
theorem sim_len {K : PySem.W.Frag} : SimC K (rLenA K) fLen := by
  intro Z xs ds H M Q Q' S r f q
  unfold fLen at f
  split at f
  · cases r with
    | cons r1 r2 =>
      cases r2
      cases r1
      exact .inr ⟨_, rfl, f.1, q _ _ H M (Go.refl S) (.int _) f.2⟩
  · cases r with
    | cons r1 r2 =>
      cases r2
      obtain ⟨es, hs, z⟩ := f
      obtain ⟨p, vs, rfl, hv, rl⟩ := seq_of S r1 hs
      refine .inl ⟨p, vs, rfl, hv, q _ _ H M (Go.refl S) ?_ z⟩
      rw [rl.len]
      exact .int _
  · exact f.elim
/-- int(x) of an int, a bool -/
def fInt : FC := fun ds M Q => match ds with
  | [.int i] => Q (.int i) M
  | [.bl b] => Q (.int (if b then 1 else 0)) M
  | _ => False
theorem sim_int {K : PySem.W.Frag} : SimC K (fun xs H Q => (∃ i, xs = [.int i] ∧ Q (.int i) H) ∨ ∃ k, xs = [.bl k] ∧ Q (.int (if k then 1 else 0)) H) fInt := by
  intro Z xs ds H M Q Q' S r f q
  unfold fInt at f
  split at f
  · cases r with
    | cons r1 r2 =>
      cases r2
      cases r1
      exact .inl ⟨_, rfl, q _ _ H M (Go.refl S) (.int _) f⟩
  · cases r with
    | cons r1 r2 =>
      cases r2
      cases r1
      exact .inr ⟨_, rfl, q _ _ H M (Go.refl S) (.int _) f⟩
  · exact f.elim
def fAbs : FC := fun ds M Q => match ds with
  | [.int i] => Q (.int (if i < 0 then -i else i)) M
  | _ => False
theorem sim_abs {K : PySem.W.Frag} : SimC K (fun xs H Q => ∃ i, xs = [.int i] ∧ Q (.int (if i < 0 then -i else i)) H) fAbs := by
  intro Z xs ds H M Q Q' S r f q
  unfold fAbs at f
  split at f
  · cases r with
    | cons r1 r2 =>
      cases r2
      cases r1
      exact ⟨_, rfl, q _ _ H M (Go.refl S) (.int _) f⟩
  · exact f.elim
def f2I (g : Int → Int → Int) : FC := fun ds M Q => match ds with
  | [.int i, .int j] => Q (.int (g i j)) M
  | _ => False
/-- tuple(x), list(x) of a list or a tuple -/
def fTuple : FC := fun ds M Q => match ds with
  | [d] => ∃ es, seqD M d = some es ∧ Q (.tup es) M
  | _ => False
theorem sim_tuple {K : PySem.W.Frag} : SimC K (fun xs H Q => ∃ p ys, xs = [.ref p] ∧ ((SqL K H p ys ∧ ∀ l, H l = none → Q (.ref l) (upd H l (.tup ys))) ∨ (SqT K H p ys ∧ Q (.ref p) H))) fTuple := by
  intro Z xs ds H M Q Q' S r f q
  unfold fTuple at f
  split at f
  · cases r with
    | cons r1 r2 =>
      cases r2
      obtain ⟨es, hs, z⟩ := f
      cases hd : ‹D› with
      | tup us =>
        subst hd
        obtain rfl : us = es := Option.some.inj hs
        cases r1 with
        | tup h1 rl => exact ⟨_, _, rfl, .inr ⟨sqt_mono fz_sub h1, q _ _ H M (Go.refl S) (.tup h1 rl) z⟩⟩
      | lst us =>
        subst hd
        obtain ⟨p, vs, rfl, hv, rl⟩ := lst_of S r1 ⟨0, .inr (by obtain rfl : us = es := Option.some.inj hs; rfl)⟩ hs
        refine ⟨p, vs, rfl, .inl ⟨hv, fun l hl => ?_⟩⟩
        obtain ⟨g, n⟩ := Go.laid (o := .tup vs) S hl
        exact q _ _ _ _ g (.tup (.inl (.inl n)) (rl.up g.ex)) z
      | tok p0 =>
        subst hd
        obtain ⟨p, vs, rfl, hv, rl⟩ := lst_of S r1 ⟨p0, .inl rfl⟩ hs
        refine ⟨p, vs, rfl, .inl ⟨hv, fun l hl => ?_⟩⟩
        obtain ⟨g, n⟩ := Go.laid (o := .tup vs) S hl
        exact q _ _ _ _ g (.tup (.inl (.inl n)) (rl.up g.ex)) z
      | non => subst hd; cases hs
      | bl _ => subst hd; cases hs
      | int _ => subst hd; cases hs
      | str _ => subst hd; cases hs
      | ty _ => subst hd; cases hs
      | exc _ _ _ _ _ => subst hd; cases hs
      | tpl us =>
        subst hd
        obtain rfl : us = es := Option.some.inj hs
        cases r1 with
        | tpl h1 h2 rl => exact ⟨_, _, rfl, .inr ⟨.inl (.inr ⟨_, fz_sub _ _ h1⟩), q _ _ H M (Go.refl S) (.tup (.inl (.inr ⟨_, h1⟩)) rl) z⟩⟩
      | dct _ _ => subst hd; cases hs
  · exact f.elim
def fList : FC := fun ds M Q => match ds with
  | [d] => ∃ es, seqD M d = some es ∧ Q (.lst es) M
  | _ => False
def rListA (K : PySem.W.Frag) : List V → Hp → VK → Prop := fun xs H Q => ∃ p ys, xs = [.ref p] ∧ (SqL K H p ys ∨ SqT K H p ys) ∧ ∀ l, H l = none → Q (.ref l) (upd H l (.lst ys))
theorem sim_list {K : PySem.W.Frag} : SimC K (rListA K) fList := by
  intro Z xs ds H M Q Q' S r f q
  unfold fList at f
  split at f
  · cases r with
    | cons r1 r2 =>
      cases r2
      obtain ⟨es, hs, z⟩ := f
      obtain ⟨p, vs, rfl, hv, rl⟩ := seq_of S r1 hs
      refine ⟨p, vs, rfl, hv, fun l hl => ?_⟩
      obtain ⟨g, n⟩ := Go.laid (o := .lst vs) S hl
      exact q _ _ _ _ g (.lst (.inl (.inl n)) (rl.up g.ex)) z
  · exact f.elim
def fListM : FC := fun ds M Q => match ds with
  | [d] => ∃ es, seqD M d = some es ∧ ∀ p, M p = none → Q (.tok p) (setM M p (.lst es))
  | _ => False
theorem sim_listM {K : PySem.W.Frag} : SimC K (rListA K) fListM := by
  intro Z xs ds H M Q Q' S r f q
  unfold fListM at f
  split at f
  · cases r with
    | cons r1 r2 =>
      cases r2
      obtain ⟨es, hs, z⟩ := f
      obtain ⟨p, vs, rfl, hv, rl⟩ := seq_of S r1 hs
      refine ⟨p, vs, rfl, hv, fun l hl => ?_⟩
      exact q _ _ _ _ (Go.putL S (.inl hl) rl) (.tok l) (z l (S.free hl))
  · exact f.elim
def fBls (g : List Bool → Bool) : FC := fun ds M Q => match ds with
  | [d] => ∃ ns : List Bool, (∃ a, d = .tok a ∨ d = .lst (ns.map .bl)) ∧ seqD M d = some (ns.map .bl) ∧ Q (.bl (g ns)) M
  | _ => False
theorem sim_all {K : PySem.W.Frag} : SimC K (rAll K) (fBls fun bs => bs.all id) := by
  intro Z xs ds H M Q Q' S r f q
  unfold fBls at f
  split at f
  · cases r with
    | cons r1 r2 =>
      cases r2
      obtain ⟨ns, hd, hs, z⟩ := f
      obtain ⟨p, vs, rfl, hv, rl⟩ := lst_of S r1 hd hs
      obtain rfl := rl.bls
      exact ⟨p, ns, rfl, hv, q _ _ H M (Go.refl S) (.bl _) z⟩
  · exact f.elim
end
end L3
namespace L3
open PySem L2
/-! ### the law's own call -/
theorem law_g {P : Program} {w : World} {K : PySem.W.Frag} {mg mb : Str → Option Value} {k : Nat} {fa a : Addr} {fd : FuncData} {x : Str} {sp : Sp} {s1 : Shared} {vs : List Value} {ns : List Int}
    (KX : K.In s1.heap) (hns : s1.heap.Ns mainGlobals mg) (hb : s1.heap.Ns builtinsNs mb) (hbb : ∀ x : Str, x ≠ "__name__" → mb x = bootBuiltins x) (hlim : s1.heap.NoLimit) (hg : s1.gens = #[])
    (ha : s1.heap.get? a = some { cls := .type "list", data := .seq vs.toArray }) (hi : PyProof.Rows.IntsAre vs ns) (hl : ns.length ≤ sizeLine) (hr : Room k callerA)
    (F : ∀ base : Heap, K.In base → base.Ns mainGlobals mg → FnG P w K mg base k fa fd [x] sp) (hbind : ∀ (s : Shared) (u : Value), BindsTo s fd ⟨[u], []⟩ [(x, u)])
    (hsp : ∀ H : Hp, SqL K H a (ns.map V.int) → sp [.ref a] H (fun v _ => v = .bl true) fun _ _ _ => False) :
    codeAny (model P w) callerA (.call (.ref fa) ⟨[.ref a], []⟩) (fun r s' => r = .ok (.ret (.bool true)) ∧ OldK s1.heap s'.heap ∧ s'.os = s1.os ∧ PyProof.Rows.AllBare s'.gens) s1 := by
  have vals := vals_ints hi
  have hlen := hi.length
  have main : ∀ H : Hp, Only H → SqL K H a (ns.map V.int) → HOk P w H s1.heap → (∀ b, H b ≠ none → b = a) → (H a ≠ none → K.lookup a = none) →
      codeAny (model P w) callerA (.call (.ref fa) ⟨[.ref a], []⟩) (fun r s' => r = .ok (.ret (.bool true)) ∧ OldK s1.heap s'.heap ∧ s'.os = s1.os ∧ PyProof.Rows.AllBare s'.gens) s1 := by
    intro H only sq hok hA hK
    have eqa : ∀ {b : Addr} {u : HO}, H b = some u → b = a := fun {b u} q => hA b (by rw [q]; exact fun z => nomatch z)
    have free : ∀ {b : Addr} {o : Obj}, s1.heap.get? b = some o → o ≠ { cls := .type "list", data := .seq vs.toArray } → H b = none := fun {b o} e d => by
      cases q : H b with
      | none => rfl
      | some u =>
        have e' := eqa q
        subst e'
        rw [ha] at e
        exact absurd (Option.some.inj e).symm d
    have nsK : ∀ {b : Addr} {m : Str → Option Value}, s1.heap.Ns b m → (hidT s1.heap H).Ns b m := fun {b m} ⟨o, es, ep, e, d, r⟩ =>
      ⟨o, es, ep, hidT_get e (free e fun z => by rw [z] at d; exact nomatch d), d, r⟩
    have kin : K.In (hidT s1.heap H) := fun b o e => hidT_get (KX b o e) (by
      cases q : H b with
      | none => rfl
      | some u =>
        have e' := eqa q
        subst e'
        rw [hK (by rw [q]; exact fun z => nomatch z)] at e
        exact nomatch e)
    have md : Mod K mg (hidT s1.heap H) := ⟨kin, nsK hns, ⟨mb, nsK hb, hbb⟩, hlim.elim fun mc h => ⟨mc, nsK h.1, h.2⟩⟩
    have e0 : Env0 P w K mg (hidT s1.heap H) callerA [] s1 H := ⟨rfl, md, fun b o e => of_hidT e, Nat.le_of_eq (hidT_size _ _), trivial, fun b z => absurd z List.not_mem_nil, hok, .of_eq hg⟩
    refine codeAny_mono ((F _ kin (nsK hns)).run callerA [] s1 H ⟨[.ref a], []⟩ [.ref a] [.ref a] _ _ rfl hr e0 (hbind s1 (.ref a)) (.cons rfl .nil) (hsp H sq)) fun r s' h => ?_
    cases r with
    | error e =>
      obtain ⟨_, _, _, _, _, _, _, _, _, _, _, _, z⟩ := h
      exact z.elim
    | ok fl =>
      cases fl with
      | next => exact h.elim
      | brk => exact h.elim
      | cont => exact h.elim
      | ret u =>
        obtain ⟨v, H', os, bare, un, hok', rv, q⟩ := h
        subst q
        obtain rfl : u = Value.bool true := rv
        refine ⟨rfl, OldK.of_keep fun b o e => ?_, os, bare⟩
        cases q : H b with
        | none => exact un.keep b o e q List.not_mem_nil List.not_mem_nil
        | some u =>
          rcases only b with z | ⟨ob, xs, z⟩
          · rw [q] at z
            exact nomatch z
          · have e1 := (hok b _ z).1
            have e2 := (hok' b _ (un.frzs b ob _ z)).1
            rw [e] at e1
            rw [Option.some.inj e1]
            exact e2
  cases hk : K.lookup a with
  | some o =>
    have e := KX a o hk
    rw [ha] at e
    cases e
    exact main (fun _ => none) (fun _ => .inl rfl) (.inr ⟨_, vs.toArray, _, hk, rfl, rfl, rfl, by rw [List.size_toArray, hlen]; exact hl, by simpa using vals⟩) (fun _ _ z => nomatch z) (fun _ z => absurd rfl z) fun z => absurd rfl z
  | none =>
    refine main (fun b => if b = a then some (.frz { cls := .type "list", data := .seq vs.toArray } (.lst (ns.map V.int))) else none) (fun b => ?_) (.inl (.inr ⟨{ cls := .type "list", data := .seq vs.toArray }, if_pos rfl⟩)) (fun b u z => ?_) (fun b z => ?_) fun _ => hk
    · rcases Decidable.em (b = a) with e | e
      · exact .inr ⟨_, _, if_pos e⟩
      · exact .inl (if_neg e)
    · rcases Decidable.em (b = a) with e | e
      · have z' := (if_pos e).symm.trans z
        cases z'
        rw [e]
        exact ⟨ha, by rw [List.length_map]; exact hl, vs, _, vals, ha⟩
      · have z' := (if_neg e).symm.trans z
        cases z'
    · rcases Decidable.em (b = a) with e | e
      · exact e
      · exact absurd (if_neg e) z
theorem walk_g {l : PySem.W.OpenLaw} {n k : Nat} {q : Program} {loose : List Str} {XP : (Str → Option Value) → Heap → Prop} {YP : World → Heap → Prop} {d : DefRec} {K : Params → PySem.W.Frag} {sp : World → Sp} {x : Str}
    (hn : l.most = some n) (hn2 : n ≤ sizeLine) (hdf : d.params.defaults = []) (hr : Room k callerA) (hY : ∀ (w : World) (h : Heap), YP w h → (K w.params).In h)
    (F : ∀ (w : World) (mg : Str → Option Value) (fa : Addr) (h : Heap), (K w.params).In h → h.Ns mainGlobals mg → mg d.name = some (.ref fa) →
      ∃ fd : FuncData, (∀ (s : Shared) (u : Value), BindsTo s fd ⟨[u], []⟩ [(x, u)]) ∧ ∀ base : Heap, (K w.params).In base → base.Ns mainGlobals mg → FnG l.prog w (K w.params) mg base k fa fd [x] (sp w))
    (hsp : ∀ (w : World) (H : Hp) (a : Addr) (ns : List Int), ns.length ≤ n → SqL (K w.params) H a (ns.map V.int) → sp w [.ref a] H (fun v _ => v = .bl true) fun _ _ _ => False) :
    PySem.W.WalkO q loose XP YP l.row.toRowW d [] (fun f vs => PySem.call f vs) := by
  refine Att.attach_call hn hdf fun w s0 s1 mg mb fa o pm cd doc a vs ns G Y ho hd hcd hmg hobj hints hlen hg => ?_
  obtain ⟨fd, hb, hF⟩ := F w mg fa _ (hY w _ Y) G.T.g hmg
  exact law_g (hY w _ Y) G.T.g G.T.b G.T.builtins G.T.nolimit hg hobj hints (Nat.le_trans hlen hn2) hr hF hb fun H hS => hsp w H a ns hlen hS
/-! ### a def of the text with its contract -/
structure Has (P : Program) (w : World) (K : PySem.W.Frag) (mg : Str → Option Value) (base : Heap) (k : Nat) (x : Str) (st : Stmt) (ps : List Str) (F : Fs) : Prop where
  ex : ∃ (f : Addr) (fd : FuncData), FnG P w K mg base k f fd ps (lift K F) ∧ mg x = some (.ref f) ∧ Fun K x x st f fd ∧ Binds K fd ps []
section
variable {X : Cx} {E : WX3} {e a b c : Expr} {es : List Expr} {t ta tb tc te : TE} {w wa wb wc we : WE} {pos p : Pos} {k : Nat} {tr tk : TA} {wr wk : WA} {x : Str} {st : Stmt} {ps : List Str} {F : Fs} {kws : List Keyword}
theorem de_h (h : Has X.prog X.w X.K X.mg X.base k x st ps F) (hr : Room k X.A) (gd : X.A.guards = some []) (ha : DA X (e :: es) tr wr) (hg : Gl X x := by rfl) (hdb : (x == ("__debug__" : Str)) = false := by decide)
    (he : starEach (e :: es) X.env = (false, eval e X.env) :: starEach es X.env := by rfl) (hpl : (backTo pos (starEach es X.env)).any (·.1) = false := by rfl) : DE X (.Call (.Name x p) (e :: es) [] pos) (tCallG (lift X.K F) [] E0 tr) (wCall F wr) := by
  obtain ⟨f, fd, G, hm, Fn, hb⟩ := h.ex
  exact de_call G hr gd hm Fn.kp hb ha hg hdb he hpl
/-- how a call with keywords binds: shown by «fun _ _ _ _ _ _ us ws h1 h2 => match us, ws, h1, h2 with | [_], [_, _], _, _ => rfl» -/
def Kw (x : Str) (st : Stmt) (ps : List Str) (n : Nat) (ks : List Str) (idx : List Nat) : Prop := ∀ (kV doc pm : Value) (an : Option Addr) (cdv ct : Value) (us ws : List Value), us.length = n → ws.length = ks.length →
  bindArgs (PySem.W.fnOf x x (defArgs st) (defBody st) (defScope st) .none kV doc pm an cdv ct) ⟨us, ks.zip ws⟩ = pure (ps.zip (permU idx us ws))
theorem kb_of {K : PySem.W.Frag} {f : Addr} {fd : FuncData} {n : Nat} {ks : List Str} {idx : List Nat} (Fn : Fun K x x st f fd) (h : Kw x st ps n ks idx) : KB K fd ps n ks idx := by
  obtain ⟨oc, od, kV, doc, pm, an, cdv, ct, osl, rfl, lk, hcd⟩ := Fn.ex
  exact fun s us ws _ h1 h2 => .of_eq (h kV doc pm an cdv ct us ws h1 h2)
theorem de_hk0 {ks : List Str} {idx : List Nat} (h : Has X.prog X.w X.K X.mg X.base k x st ps F) (hr : Room k X.A) (gd : X.A.guards = some []) (kb : Kw x st ps 0 ks idx) (hkw : DK X kws tk wk) (hg : Gl X x := by rfl)
    (hall : (backToKw pos (keywordEach kws X.env)).all (·.1.isSome) = true := by rfl) (hks : (backToKw pos (keywordEach kws X.env)).filterMap (·.1) = ks := by rfl)
    (hdb : (x == ("__debug__" : Str)) = false := by decide)
    (hpl : ((backTo pos (starEach [] X.env)).any (·.1) || (backToKw pos (keywordEach kws X.env)).any (·.1.isNone)) = false := by rfl) :
    DE X (.Call (.Name x p) [] kws pos) (tCallGK 0 ks.length idx (lift X.K F) E0 tNil tk) (wCallK 0 ks.length idx F wNil wk) := by
  obtain ⟨f, fd, G, hm, Fn, hb⟩ := h.ex
  exact de_callK0 G hr gd hm Fn.kp (kb_of Fn kb) hkw hg hall hks hdb hpl
end
theorem Has.mk' {P : Program} {w : World} {K : PySem.W.Frag} {mg : Str → Option Value} {base : Heap} {k : Nat} {x : Str} {st : Stmt} {ps : List Str} {F : Fs} {f : Addr} {fd : FuncData} (Fn : Fun K x x st f fd) (hm : mg x = some (.ref f)) (G : FnG P w K mg base k f fd ps (lift K F))
    (hb : ∀ (kV doc pm : Value) (an : Option Addr) (cdv ct : Value) (us : List Value), us.length = ps.length → bindArgs (PySem.W.fnOf x x (defArgs st) (defBody st) (defScope st) .none kV doc pm an cdv ct) ⟨us, []⟩ = pure (ps.zip us)) : Has P w K mg base k x st ps F := ⟨f, fd, G, hm, Fn, Fn.binds hb⟩
/-! ### the draws -/
def drawF : Fs := fun ds M Q _ => ∃ a a0 n, ds = [.tok a, .int n] ∧ M a = some (.drw a0) ∧ 0 < n ∧ n.natAbs.log2 < 9000 ∧ ∀ k, 0 ≤ k → k < n → Q (.int k) M
/-- one of a list's or tuple's items -/
def pickF : Fs := fun ds M Q _ => ∃ a a0 d es, ds = [.tok a, d] ∧ M a = some (.drw a0) ∧ seqD M d = some es ∧ 0 < es.length ∧ es.length ≤ 1000000 ∧ ∀ x ∈ es, Q x M
end L3
namespace L3
open PySem L2
def fIsq : FC := fun ds M Q => match ds with
  | [.int a] => 0 ≤ a ∧ a < 2 ^ 13000 ∧ Q (.int (Float64.isqrt a.toNat : Nat)) M
  | _ => False
end L3
namespace L3
open PySem L2
def fIsB : F2 := fun d e M Q => match d, e with
  | .bl a, .bl b => Q (.bl (decide (a = b))) M
  | _, _ => False
end L3
namespace L3
open PySem L2
/-! ### what the draws need -/
theorem ix_l {K : PySem.W.Frag} {a : Addr} {xs : List V} {k : Int} {y : V} {H : Hp} {Q : VK} (h : H a = some (.lst xs)) (e : atI xs k = some y) (q : Q y H) : rIx K (.ref a) (.int k) H Q :=
  .inl ⟨a, xs, k, y, rfl, rfl, .inl (.inl h), e, q⟩
theorem ne_nil {K : PySem.W.Frag} {a p : Addr} {cs : List Int} {H : Hp} {Q : VK} (h : H a = some (.lst (cs.map V.int))) (hp : H p = some (.lst [])) (q : Q (.bl (decide (cs ≠ []))) H) : rNeD K (.ref a) (.ref p) H Q := by
  have r1 : Rep K H (.ref a) (.lst (cs.map .int)) := .lst (.inl (.inl h)) (.ofInts cs)
  have r2 : Rep K H (.ref p) (.lst []) := .lst (.inl (.inl hp)) .nil
  have f1 : fit 2 (.lst (cs.map .int)) := by
    simp [fit]
  have f2 : fit 2 (.lst []) := by
    simp [fit]
  refine ⟨_, _, Rep.dp 2 _ _ f1 r1, Rep.dp 2 _ _ f2 r2, fit_shaped f1 (by omega), fit_shaped f2 (by omega), ?_⟩
  cases cs with
  | nil => exact q
  | cons c cs => exact q
theorem eq_int {K : PySem.W.Frag} {i j : Int} {H : Hp} {Q : VK} (q : Q (.bl (decide (i = j))) H) : rEqD K (.int i) (.int j) H Q := by
  have f1 : ∀ i : Int, fit 1 (.int i) := fun i => by simp [fit]
  refine ⟨_, _, Rep.dp 1 _ _ (f1 i) (.int i), Rep.dp 1 _ _ (f1 j) (.int j), fit_shaped (f1 i) (by omega), fit_shaped (f1 j) (by omega), ?_⟩
  have e : PyData.eqv (D.py (.int i)) (D.py (.int j)) = decide (i = j) := by
    simp only [D.py, PyData.eqv]
    rfl
  rw [e]
  exact q
theorem at_last {cs : List Int} {c : Int} : atI ((cs ++ [c]).map V.int) (-1) = some (.int c) := by
  have e : ixN ((cs ++ [c]).map V.int).length (-1) = some cs.length := by
    unfold ixN
    simp
    omega
  unfold atI
  rw [e]
  simp
theorem pop_last {a : Addr} {cs : List Int} {c : Int} {H : Hp} {Q : VK} (h : H a = some (.lst ((cs ++ [c]).map V.int))) (q : Q (.int c) (upd H a (.lst (cs.map V.int)))) : rPop (.ref a) [] H Q := by
  refine ⟨a, _, .int c, rfl, rfl, h, by simp, ?_⟩
  rw [List.map_append]
  simpa using q
/-- what stands of the draws -/
structure Dr (H0 : Hp) (a a0 : Addr) (cs : List Int) (s : Int) (H : Hp) : Prop where
  keep : ∀ b o, b ≠ a → b ≠ a0 → H0 b = some o → H b = some o
  ha : H a = some (.lst [.ref a0, .int s])
  h0 : H a0 = some (.lst (cs.map V.int))
  lo : 0 ≤ s
  hi : s < 4294967296
  len : cs.length ≤ 100
  pos : ∀ c ∈ cs, 0 ≤ c
theorem Dr.new {H0 : Hp} {a a0 p : Addr} {cs : List Int} {s : Int} {H : Hp} {o : HO} (h : Dr H0 a a0 cs s H) (hp : H p = none) : Dr H0 a a0 cs s (upd H p o) :=
  ⟨fun b u h1 h2 e => by rw [upd_ne (ne_of_none (h.keep b u h1 h2 e) hp)]; exact h.keep b u h1 h2 e, by rw [upd_ne (ne_of_none h.ha hp)]; exact h.ha, by rw [upd_ne (ne_of_none h.h0 hp)]; exact h.h0, h.lo, h.hi, h.len, h.pos⟩
theorem Dr.ne {H0 : Hp} {a a0 : Addr} {cs : List Int} {s : Int} {H : Hp} (h : Dr H0 a a0 cs s H) : a ≠ a0 := fun e => by
  have z := h.ha
  rw [e, h.h0] at z
  have z2 := HO.lst.inj (Option.some.inj z)
  cases cs with
  | nil => cases z2
  | cons c cs => cases z2
theorem Dr.put {H0 : Hp} {a a0 : Addr} {cs cs' : List Int} {s : Int} {H : Hp} (h : Dr H0 a a0 cs s H) (l : cs'.length ≤ 100) (p : ∀ c ∈ cs', 0 ≤ c) : Dr H0 a a0 cs' s (upd H a0 (.lst (cs'.map V.int))) :=
  ⟨fun b u h1 h2 e => by rw [upd_ne h2]; exact h.keep b u h1 h2 e, by rw [upd_ne h.ne]; exact h.ha, upd_same, h.lo, h.hi, l, p⟩
theorem Dr.stir {H0 : Hp} {a a0 : Addr} {cs : List Int} {s s' : Int} {H : Hp} (h : Dr H0 a a0 cs s H) (l : 0 ≤ s') (u : s' < 4294967296) : Dr H0 a a0 cs s' (upd H a (.lst [.ref a0, .int s'])) :=
  ⟨fun b u h1 h2 e => by rw [upd_ne h1]; exact h.keep b u h1 h2 e, upd_same, by rw [upd_ne h.ne.symm]; exact h.h0, l, u, h.len, h.pos⟩
theorem Dr.ok {H0 : Hp} {a a0 : Addr} {cs : List Int} {s : Int} {H : Hp} (h : Dr H0 a a0 cs s H) : DrawOk H a a0 := ⟨cs, s, h.ha, h.h0, h.lo, h.hi, h.len, h.pos⟩
/-- [xs[::-1], s]: new draws -/
def wDrw (we : WE) (i : Nat) : WE := fun ρ M Q => we ρ M fun d M1 => ∃ (cs : List Int) (s : Int), d = .lst (cs.map .int) ∧ ρ[i]? = some (some (.int s)) ∧ cs.length ≤ 100 ∧ (∀ c ∈ cs, 0 ≤ c) ∧ 0 ≤ s ∧ s < 4294967296 ∧ ∀ p q, M1 p = none → M1 q = none → p ≠ q → Q (.tok q) (setM (setM M1 p .aux) q (.drw p))
section
variable {X : Cx} {e : Expr} {te : TE} {we : WE} {k : Nat} {p1 p2 p3 p4 p5 pos : Pos} {x : Str}
theorem sim_drw {K : PySem.W.Frag} (i : Nat) (he : SimE K te we) : SimE K (tLst (tCons (tRevL K te) (tCons (tVar i) tNil))) (wDrw we i) := by
  intro Z ρ M σ H Q Q' r h q
  refine he Z ρ M σ H _ _ r h fun x d H1 M1 g1 r1 q1 => ?_
  obtain ⟨cs, s, rfl, hi, hl, hpos, s0, s1, q2⟩ := q1
  cases r1 with
  | lst hs rl =>
    obtain rfl := rl.ints
    refine ⟨_, _, rfl, fz_sub.seq hs, fun p hp => ?_⟩
    obtain ⟨v, e1, rv⟩ := r.env.2 i _ hi
    cases rv
    refine ⟨.int s, e1, (by show 2 ≤ sizeLine; decide), fun o ho => ?_⟩
    have npo : p ≠ o := fun z => by
      subst z
      rw [upd_same] at ho
      cases ho
    have ho1 : H1 o = none := by
      rw [upd_ne npo.symm] at ho
      exact ho
    have m1p := g1.sat.free hp
    have m1o := g1.sat.free ho1
    have z1p := g1.sat.freeZ hp
    have z1o := g1.sat.freeZ ho1
    -- the two new lists
    have up : ∀ b u, H1 b = some u → upd (upd H1 p (.lst ((cs.map V.int).reverse))) o (.lst [.ref p, .int s]) b = some u := fun b u e => by
      rw [upd_ne (ne_of_none e ho1), upd_ne (ne_of_none e hp)]
      exact e
    have mo : ∀ b c, b ≠ p → b ≠ o → M1 b = c → setM (setM M1 p .aux) o (.drw p) b = c := fun b c h1 h2 e => by
      rw [setM_ne h2, setM_ne h1]
      exact e
    have mp : setM (setM M1 p .aux) o (.drw p) p = some .aux := by
      rw [setM_ne npo, setM_same]
    have ex : Same (fz Z H1 M1) (fz Z (upd (upd H1 p (.lst ((cs.map V.int).reverse))) o (.lst [.ref p, .int s])) (setM (setM M1 p .aux) o (.drw p))) := fun b u e => by
      obtain ⟨e1, e2, e3⟩ := fz_is e
      exact fz_to (mo b _ (ne_of_none e3 hp) (ne_of_none e3 ho1) e1) e2 (up b u e3)
    have aux : ∀ b, M1 b = some .aux → setM (setM M1 p .aux) o (.drw p) b = some .aux ∧ ∀ u, H1 b = some u → upd (upd H1 p (.lst ((cs.map V.int).reverse))) o (.lst [.ref p, .int s]) b = some u := fun b e => by
      refine ⟨mo b _ (fun z => ?_) (fun z => ?_) e, up b⟩
      · rw [z, m1p] at e
        cases e
      · rw [z, m1o] at e
        cases e
    have er : (cs.map V.int).reverse = cs.reverse.map V.int := by rw [List.map_reverse]
    have sat : Sat K Z (upd (upd H1 p (.lst ((cs.map V.int).reverse))) o (.lst [.ref p, .int s])) (setM (setM M1 p .aux) o (.drw p)) := by
      refine ⟨fun b c hb => ?_, fun b u hb => ?_⟩
      · by_cases h1 : b = o
        · subst h1
          rw [setM_same] at hb
          cases hb
          exact ⟨mp, cs.reverse, s, upd_same, by rw [upd_ne npo, upd_same, er], s0, s1, by rw [List.length_reverse]; exact hl, fun c hc => hpos c (List.mem_reverse.mp hc)⟩
        · by_cases h2 : b = p
          · subst h2
            rw [mp] at hb
            cases hb
            exact ⟨_, by rw [upd_ne npo, upd_same]⟩
          · rw [setM_ne h1, setM_ne h2] at hb
            exact (g1.sat.cell b c hb).same ex (up b) aux
      · obtain ⟨e1, e2⟩ := g1.sat.zed b u hb
        exact ⟨up b u e1, mo b _ (ne_of_none e1 hp) (ne_of_none e1 ho1) e2⟩
    exact q _ _ _ _ ⟨sat, g1.ex.trans ex⟩ (.tok o) (q2 p o m1p m1o npo)
theorem de_drw (i : Nat) (he : DE X e te we) (hN : X.N[i]? = some x := by rfl) (hv : Vis X.env.scope x := by first | exact Or.inl rfl | exact Or.inr (Or.inl rfl) | exact Or.inr (Or.inr rfl)) (hd : (x == ("__debug__" : Str)) = false := by decide)
    (hcd : (x == ("__classdict__" : Str)) = false := by decide) (h1 : starEach [(.Subscript e (.Slice none none (some (.UnaryOp .USub (.Constant (.int 1) k p1) p2)) p3) p4), (.Name x p5)] X.env = (false, eval (.Subscript e (.Slice none none (some (.UnaryOp .USub (.Constant (.int 1) k p1) p2)) p3) p4) X.env) :: starEach [(.Name x p5)] X.env := by rfl)
    (h2 : starEach [(.Name x p5)] X.env = (false, eval (.Name x p5) X.env) :: starEach [] X.env := by rfl) :
    DE X (.List [(.Subscript e (.Slice none none (some (.UnaryOp .USub (.Constant (.int 1) k p1) p2)) p3) p4), (.Name x p5)] pos) (tLst (tCons (tRevL X.K te) (tCons (tVar i) tNil))) (wDrw we i) :=
  ⟨pe_lst (pa_cons (pe_revL he.pe) (pa_cons (pe_var hN hv hd hcd) pa_nil h2) h1), sim_drw i he.sm⟩
end
/-! ### equality: plain values first -/
def rEqV (K : PySem.W.Frag) : R2 := fun x y H Q => rEq x y H Q ∨ rEqD K x y H Q
def rNeV (K : PySem.W.Frag) : R2 := fun x y H Q => rNe x y H Q ∨ rNeD K x y H Q
theorem op_eqV {X : Cx} {k : Nat} (hr : Room k X.A) : OpR X (compareOp .Eq) (rEqV X.K) := op_eq.or (op_eqG hr)
theorem op_neV {X : Cx} {k : Nat} (hr : Room k X.A) : OpR X (compareOp .NotEq) (rNeV X.K) := op_ne.or (op_neG hr)
def eqS : D → D → Option Bool
  | .int i, .int j => some (decide (i = j))
  | .str i, .str j => some (decide (i = j))
  | .bl i, .bl j => some (decide (i = j))
  | _, _ => none
def eqV (neg : Bool) : F2 := fun d e M Q => match eqS d e with
  | some b => Q (.bl (if neg then !b else b)) M
  | none => eqD2 neg d e M Q
theorem eqS_rep {K : PySem.W.Frag} {H : Hp} {x y : V} {d e : D} {b : Bool} (r1 : Rep K H x d) (r2 : Rep K H y e) (h : eqS d e = some b) : scal x y = true ∧ decide (x = y) = b := by
  unfold eqS at h
  split at h
  · cases r1
    cases r2
    refine ⟨rfl, ?_⟩
    rw [← Option.some.inj h]
    exact decide_eq_decide.mpr ⟨fun z => by cases z; rfl, fun z => by rw [z]⟩
  · cases r1
    cases r2
    refine ⟨rfl, ?_⟩
    rw [← Option.some.inj h]
    exact decide_eq_decide.mpr ⟨fun z => by cases z; rfl, fun z => by rw [z]⟩
  · cases r1
    cases r2
    refine ⟨rfl, ?_⟩
    rw [← Option.some.inj h]
    exact decide_eq_decide.mpr ⟨fun z => by cases z; rfl, fun z => by rw [z]⟩
  · cases h
theorem sim_eqV {K : PySem.W.Frag} : SimR K (rEqV K) (eqV false) := by
  intro Z x y d e H M Q Q' S r1 r2 f q
  unfold eqV at f
  split at f
  · rename_i b h
    obtain ⟨h1, h2⟩ := eqS_rep r1 r2 h
    refine .inl ⟨h1, ?_⟩
    rw [h2]
    exact q _ _ H M (Go.refl S) (.bl _) f
  · exact .inr (sim_eq Z x y d e H M Q Q' S r1 r2 f q)
theorem sim_neV {K : PySem.W.Frag} : SimR K (rNeV K) (eqV true) := by
  intro Z x y d e H M Q Q' S r1 r2 f q
  unfold eqV at f
  split at f
  · rename_i b h
    obtain ⟨h1, h2⟩ := eqS_rep r1 r2 h
    refine .inl ⟨h1, ?_⟩
    rw [h2]
    exact q _ _ H M (Go.refl S) (.bl _) f
  · exact .inr (sim_ne Z x y d e H M Q Q' S r1 r2 f q)
end L3
namespace L3
open PySem L2
end L3
namespace L3
open PySem L2
end L3
namespace L3
open PySem L2
end L3
namespace L3
open PySem L2
section
variable {X : Cx} {E : WX3} {e e2 o a b : Expr} {es : List Expr} {pos p p2 tpos apos cpos : Pos} {elts : List Expr} {kk : Nat} {te to ta tb : TE} {we wo wa wb : WE} {tr : TA} {wr : WA}
/-! ### zip of two tuples, or of two lists -/
/-! ### methods of a list of the store -/
def wApp (wo : WE) (r : WA) : WE := fun ρ M Q => wo ρ M fun d M1 => match d with
  | .tok a => (∃ es, M1 a = some (.lst es)) ∧ r ρ M1 fun ds M2 => match ds with
    | [x] => ∃ es, M2 a = some (.lst es) ∧ es.length < sizeLine ∧ Q .non (setM M2 a (.lst (es ++ [x])))
    | _ => False
  | _ => False
theorem de_append (ho : DE X o to wo) (ha : DA X (e :: es) tr wr) (hs : attributeBase o "append" X.env (eval o X.env) = eval o X.env := by rfl)
    (h2 : (((backTo cpos (starEach (e :: es) X.env)).all fun x => !x.1) && ((backToKw cpos (keywordEach [] X.env)).all fun x => x.1.isSome) && decide (((e :: es).length + ([] : List Keyword).length + if ([] : List Keyword).isEmpty = true then 0 else 1) < 30)) = true := by rfl)
    (h3 : (apos.endLine == cpos.line) = true := by rfl) (h4 : starEach (e :: es) X.env = (false, eval e X.env) :: starEach es X.env := by rfl) (h5 : (backTo cpos (starEach es X.env)).any (·.1) = false := by rfl) :
    DE X (.Call (.Attribute o "append" apos) (e :: es) [] cpos) (tBM X.K "list" rAppend to tr) (wApp wo wr) := by
  refine ⟨pe_bm PySem.F.plainAttrs_list PySem.F.slot_list_append PySem.F.type_list_append mt_append ho.pe ha.pe hs h2 h3 h4 h5, fun Z ρ M σ H Q Q' s h q => ?_⟩
  refine ho.sm Z ρ M σ H _ _ s h fun x d H1 M1 g1 r1 q1 => ?_
  cases d with
  | tok a =>
    cases r1
    obtain ⟨⟨es0, hm⟩, q1⟩ := q1
    obtain ⟨vs0, e0, _⟩ := g1.sat.cell a _ hm
    refine ⟨.inl ⟨rfl, _, .inl (.inl e0)⟩, ?_⟩
    refine ha.sm Z ρ M1 σ H1 _ _ (s.go g1) q1 fun ys ds H2 M2 g2 r2 q2 => ?_
    cases r2 with
    | nil => exact q2.elim
    | cons ra rb =>
      cases rb with
      | nil =>
        obtain ⟨es, hm2, hl, q3⟩ := q2
        obtain ⟨vs, e1, rl⟩ := g2.sat.cell a _ hm2
        refine ⟨a, vs, _, rfl, rfl, e1, by rw [rl.len]; exact hl, ?_⟩
        have g3 := Go.putL (p := a) g2.sat (.inr ⟨es, hm2⟩) (rl.app (.cons ra .nil))
        exact q _ _ _ _ ((g1.trans g2).trans g3) .non q3
      | cons _ _ => exact q2.elim
  | _ => exact q1.elim
/-- tuple * int -/
def tmulD : F2 := fun d e M Q => match d, e with
  | .tup ds, .int k => ds ≠ [] ∧ 2 ≤ k ∧ k ≤ 1000 ∧ ds.length ≤ 1000 ∧ Q (.tup (List.replicate k.toNat ds).flatten) M
  | _, _ => False
theorem rep_flat {K : PySem.W.Frag} {H : Hp} {vs : List V} {ds : List D} (r : RepL K H vs ds) : ∀ k : Nat, RepL K H (List.replicate k vs).flatten (List.replicate k ds).flatten
  | 0 => .nil
  | k + 1 => by
    rw [List.replicate_succ, List.replicate_succ, List.flatten_cons, List.flatten_cons]
    exact r.app (rep_flat r k)
theorem sim_tmul {K : PySem.W.Frag} : SimR K (rRepT K) tmulD := by
  intro Z x y d e H M Q Q' S r1 r2 f q
  unfold tmulD at f
  split at f
  · cases r1 with
    | tup h1 l1 =>
      cases r2
      obtain ⟨f0, f1, f2, f3, f4⟩ := f
      refine ⟨_, _, _, rfl, rfl, sqt_mono fz_sub h1, fun z => f0 ?_, f1, f2, by rw [l1.len]; exact f3, fun p hp => ?_⟩
      · subst z
        cases l1
        rfl
      · obtain ⟨g, n⟩ := Go.laid (o := .tup (List.replicate _ _).flatten) S hp
        exact q _ _ _ _ g (.tup (.inl (.inl n)) ((rep_flat l1 _).up g.ex)) f4
  · exact f.elim
theorem de_tmul (ha : DE X a ta wa) (hb : DE X b tb wb) : DE X (.BinOp a .Mult b pos) (tOp (rRepT X.K) ta tb) (wOp tmulD wa wb) := de_op op_repT sim_tmul ha hb
end
end L3
namespace L3
open PySem L2
/-! ### how readings are walked, a statement at a time -/
theorem seq_gen {u1 u2 : WS} {D : Ends3} {ρ : En} {M : Mp} (h : ∀ K : En → Mp → Prop, K = u2 D → u1 { D with nx := K } ρ M) : wSeq u1 u2 D ρ M := h _ rfl
theorem for_gen {wi : WI} {g : WG} {wb : WS} {D : Ends3} {ρ : En} {M : Mp} (h : ∀ B : WS, B = wb → wFor wi g B D ρ M) : wFor wi g wb D ρ M := h _ rfl
theorem loop_ix {g : WG} {wb : WS} {Ok : Mp → Prop} {D3 : Ends3} {ds : List D} (P : Nat → En → Mp → Prop)
    (hs : ∀ i d ρ M, ds[i]? = some d → P i ρ M → Ok M ∧ ∀ K : En → Mp → Prop, (∀ ρ' M', P (i + 1) ρ' M' → K ρ' M') → g d ρ M fun ρ1 M1 => wb { D3 with nx := K, ct := K, bk := D3.nx } ρ1 M1)
    (he : ∀ ρ M, P ds.length ρ M → Ok M ∧ D3.nx ρ M) : ∀ {ρ M}, P 0 ρ M → wLoop g wb Ok D3 ds ρ M := by
  have main : ∀ (es : List D) (i : Nat), i ≤ ds.length → ds.drop i = es → ∀ ρ M, P i ρ M → wLoop g wb Ok D3 es ρ M := by
    intro es
    induction es with
    | nil =>
      intro i hi e ρ M h
      have l : ds.length ≤ i := List.drop_eq_nil_iff.mp e
      obtain rfl : i = ds.length := Nat.le_antisymm hi l
      exact he ρ M h
    | cons d es ih =>
      intro i hi e ρ M h
      have l : i < ds.length := by
        rcases Nat.lt_or_ge i ds.length with z | z
        · exact z
        · rw [List.drop_eq_nil_of_le z] at e
          cases e
      have e2 := List.drop_eq_getElem_cons l
      rw [e] at e2
      obtain ⟨e3, e4⟩ := List.cons.inj e2
      obtain ⟨ok, k⟩ := hs i d ρ M (by rw [List.getElem?_eq_getElem l, e3]) h
      exact ⟨ok, k _ fun ρ' M' h' => ih (i + 1) l e4.symm ρ' M' h'⟩
  exact fun {ρ M} h => main ds 0 (Nat.zero_le _) rfl ρ M h
theorem intsD_len {lo : Int} {n : Nat} : (intsD lo n).length = n := by
  unfold intsD
  rw [List.length_map, List.length_range]
theorem intsD_get {lo : Int} {n i : Nat} {d : D} (h : (intsD lo n)[i]? = some d) : i < n ∧ d = .int (lo + (i : Int)) := by
  have hi : i < n := by
    have z := (List.getElem?_eq_some_iff.mp h).1
    rw [intsD_len] at z
    exact z
  refine ⟨hi, ?_⟩
  unfold intsD at h
  rw [List.getElem?_map, List.getElem?_range hi] at h
  exact (Option.some.inj h).symm
/-- a comprehension each of whose values is known -/
theorem lc_pure {g : WG} {we : WE} {Ok : Mp → Prop} {ρ : En} {M : Mp} {Q : KD} (f : D → D) (ok : Ok M) : ∀ (ds acc : List D), acc.length + ds.length ≤ 1000000 → (∀ d ∈ ds, ∀ K : KD, K (f d) M → g d ρ M fun ρ1 M1 => we ρ1 M1 K) →
    Q (.lst (acc ++ ds.map f)) M → wLcL g wYes we Ok ρ ds acc M Q
  | [], acc, _, _, q => ⟨ok, by rw [List.map_nil, List.append_nil] at q; exact q⟩
  | d :: ds, acc, hl, hs, q => by
    rw [List.length_cons] at hl
    refine ⟨ok, Nat.lt_of_lt_of_le (by omega : acc.length < 1000000) (by decide), ?_⟩
    have z := hs d List.mem_cons_self (fun y M3 => wLcL g wYes we Ok ρ ds (acc ++ [y]) M3 Q)
      (lc_pure f ok ds (acc ++ [f d]) (by rw [List.length_append, List.length_singleton]; omega) (fun d' h' => hs d' (List.mem_cons_of_mem _ h')) (by rw [List.append_assoc]; exact q))
    exact z
/-- .. each of whose values is one of those that P tells -/
theorem lc_any {g : WG} {we : WE} {Ok : Mp → Prop} {ρ : En} {M : Mp} {Q : KD} (P : D → D → Prop) (ok : Ok M) : ∀ (ds acc : List D), acc.length + ds.length ≤ 1000000 → (∀ d ∈ ds, ∀ K : KD, (∀ y, P d y → K y M) → g d ρ M fun ρ1 M1 => we ρ1 M1 K) →
    (∀ ys : List D, ys.length = ds.length → (∀ (i : Nat) (y : D), ys[i]? = some y → ∃ d, ds[i]? = some d ∧ P d y) → Q (.lst (acc ++ ys)) M) → wLcL g wYes we Ok ρ ds acc M Q
  | [], acc, _, _, q => ⟨ok, by have z := q [] rfl (fun i y h => by rw [List.getElem?_nil] at h; cases h); rw [List.append_nil] at z; exact z⟩
  | d :: ds, acc, hl, hs, q => by
    rw [List.length_cons] at hl
    refine ⟨ok, Nat.lt_of_lt_of_le (by omega : acc.length < 1000000) (by decide), ?_⟩
    have z := hs d List.mem_cons_self (fun y M3 => wLcL g wYes we Ok ρ ds (acc ++ [y]) M3 Q) fun y hy =>
      lc_any P ok ds (acc ++ [y]) (by rw [List.length_append, List.length_singleton]; omega) (fun d' h' => hs d' (List.mem_cons_of_mem _ h')) fun ys hy1 hy2 => by
        rw [List.append_assoc]
        refine q (y :: ys) (by rw [List.length_cons, List.length_cons, hy1]) fun i u hu => ?_
        cases i with
        | zero =>
          rw [List.getElem?_cons_zero] at hu
          exact ⟨d, rfl, (Option.some.inj hu) ▸ hy⟩
        | succ i =>
          rw [List.getElem?_cons_succ] at hu
          rw [List.getElem?_cons_succ]
          exact hy2 i u hu
    exact z
theorem eqV_int {M : Mp} {neg : Bool} {x y : Int} {Q : KD} : eqV neg (.int x) (.int y) M Q ↔ Q (.bl (if neg then !decide (x = y) else decide (x = y))) M := Iff.rfl
theorem eqV_str {M : Mp} {neg : Bool} {x y : Str} {Q : KD} : eqV neg (.str x) (.str y) M Q ↔ Q (.bl (if neg then !decide (x = y) else decide (x = y))) M := Iff.rfl
theorem eqV_bl {M : Mp} {neg : Bool} {x y : Bool} {Q : KD} : eqV neg (.bl x) (.bl y) M Q ↔ Q (.bl (if neg then !decide (x = y) else decide (x = y))) M := Iff.rfl
theorem cm_of {a b : Int} (h1 : -2 ^ 60 ≤ a) (h2 : a ≤ 2 ^ 60) : CM a b := .inl (.inl ⟨by omega, by omega⟩)
theorem draw_i {M : Mp} {a a0 : Addr} {n : Int} {Q : KD} {R} (hm : M a = some (.drw a0)) (h0 : 0 < n) (h1 : n.natAbs.log2 < 9000) : drawF [.tok a, .int n] M Q R ↔ ∀ k, 0 ≤ k → k < n → Q (.int k) M := by
  constructor
  · rintro ⟨_, _, _, h, _, _, _, q⟩
    cases h
    exact q
  · exact fun q => ⟨a, a0, n, rfl, hm, h0, h1, q⟩
theorem log_of {n : Int} (h0 : 0 ≤ n) (h : n < 2 ^ 60) : n.natAbs.log2 < 9000 := by
  by_cases z : n.natAbs = 0
  · rw [z]
    decide
  · have e : n.natAbs.log2 < 60 := (Nat.log2_lt z).mpr (by omega)
    omega
theorem pick_q {M : Mp} {a a0 : Addr} {d : D} {es : List D} {Q : KD} {R} (hm : M a = some (.drw a0)) (hs : seqD M d = some es) (h0 : 0 < es.length) (h1 : es.length ≤ 1000000) (q : ∀ x ∈ es, Q x M) : pickF [.tok a, d] M Q R := ⟨a, a0, _, es, rfl, hm, hs, h0, h1, q⟩
end L3
namespace L3
open PySem L2
section
variable {X : Cx} {pos : Pos}
/-- the name of a built-in type, as a value -/
theorem de_bty {x : Str} {T : String} (hm : X.mg x = none) (hv : bootBuiltins x = some (.type T)) (hg : Gl X x := by rfl) (hn : x ≠ "__name__" := by decide) (hdb : (x == ("__debug__" : Str)) = false := by decide) : DE X (.Name x pos) (tC (.ty T)) (wC (.ty T)) := by
  refine ⟨⟨fun pins s σ H Q I h => ?_⟩, sim_c fun _ => .ty T⟩
  exact ld_blt I hg hm hv ⟨.ty T, H, I, rfl, h⟩ hn hdb
end
/-- what type data is of -/
def tyD (M : Mp) : D → Option String
  | .non => some "NoneType"
  | .bl _ => some "bool"
  | .int _ => some "int"
  | .str _ => some "str"
  | .tup _ => some "tuple"
  | .lst _ => some "list"
  | .tok a => match M a with
    | some (.lst _) => some "list"
    | some (.dic _ _) => some "dict"
    | _ => none
  | .ty _ => none
  | .exc _ _ _ _ _ => none
  | .tpl _ => none
  | .dct _ _ => some "dict"
def subT (t T : String) : Option Bool := match T with
  | "int" => some (t == "int" || t == "bool")
  | "bool" => some (t == "bool")
  | "str" => some (t == "str")
  | "tuple" => some (t == "tuple")
  | "list" => some (t == "list")
  | "dict" => some (t == "dict")
  | _ => none
def fIsi : FC := fun ds M Q => match ds with
  | [d, .ty T] => ∃ t b, tyD M d = some t ∧ subT t T = some b ∧ Q (.bl b) M
  | _ => False
theorem ty_of {K : PySem.W.Frag} {Z : Hp} {H : Hp} {M : Mp} {x : V} {d : D} {t : String} (S : Sat K Z H M) (r : Rep K (fz Z H M) x d) (h : tyD M d = some t) : TyX K H x (.type t) := by
  cases d with
  | non => cases r; cases h; exact .base .non
  | bl b => cases r; cases h; exact .base (.bl b)
  | int i => cases r; cases h; exact .base (.int i)
  | str y => cases r; cases h; exact .base (.str y)
  | ty _ => cases h
  | tok a =>
    cases r
    have h' : (match M a with | some (.lst _) => some "list" | some (.dic _ _) => some "dict" | _ => none) = some t := h
    cases q : M a with
    | none =>
      rw [q] at h'
      cases h'
    | some c =>
      rw [q] at h'
      cases c with
      | lst ds =>
        cases h'
        obtain ⟨vs, e, _⟩ := S.cell a _ q
        exact .base (.lst e)
      | aux => cases h'
      | drw _ => cases h'
      | tab _ _ => cases h'
      | box => cases h'
      | err _ _ => cases h'
      | ins _ _ => cases h'
      | dic lk kd =>
        cases h'
        obtain ⟨kv, u, e, l, _⟩ := S.cell a _ q
        cases lk with
        | none =>
          cases l
          exact .base (.dK e)
        | some o =>
          rw [l.2] at e
          exact .fDict e
  | exc _ _ _ _ _ => cases h
  | tpl _ => cases h
  | dct _ _ =>
    cases h
    cases r with
    | dct hx _ _ =>
      rcases hx with hx | ⟨o, hx⟩
      · exact .base (.dK (fz_sub _ _ hx))
      · exact .fDict (fz_sub _ _ hx)
  | tup ds =>
    cases h
    cases r with
    | tup hs _ =>
      rcases sqt_mono fz_sub hs with (e | ⟨o, e⟩) | ⟨o, its, n, e, c, _⟩
      · exact .base (.tup e)
      · exact .fTuple e
      · exact .kTuple e c
  | lst ds =>
    cases h
    cases r with
    | lst hs _ =>
      rcases fz_sub.seq hs with (e | ⟨o, e⟩) | ⟨o, its, n, e, c, _⟩
      · exact .base (.lst e)
      · exact .base (.frz e)
      · exact .kList e c
theorem kit_of (K : PySem.W.Frag) {M : Mp} {d : D} {t T : String} {b : Bool} (h : tyD M d = some t) (hs : subT t T = some b) : PySem.W.kitOne K (.type t) (.type T) = some b := by
  have ht : t = "NoneType" ∨ t = "bool" ∨ t = "int" ∨ t = "str" ∨ t = "tuple" ∨ t = "list" ∨ t = "dict" := by
    cases d with
    | non => cases h; simp
    | bl _ => cases h; simp
    | int _ => cases h; simp
    | str _ => cases h; simp
    | tup _ => cases h; simp
    | lst _ => cases h; simp
    | ty _ => cases h
    | exc _ _ _ _ _ => cases h
    | tpl _ => cases h
    | dct _ _ => cases h; simp
    | tok a =>
      have h' : (match M a with | some (.lst _) => some "list" | some (.dic _ _) => some "dict" | _ => none) = some t := h
      cases q : M a with
      | none =>
        rw [q] at h'
        cases h'
      | some c =>
        rw [q] at h'
        cases c with
        | lst ds => cases h'; simp
        | aux => cases h'
        | drw _ => cases h'
        | tab _ _ => cases h'
        | box => cases h'
        | err _ _ => cases h'
        | ins _ _ => cases h'
        | dic _ _ => cases h'; simp
  unfold subT at hs
  split at hs
  · rcases ht with rfl | rfl | rfl | rfl | rfl | rfl | rfl <;> (cases hs; rfl)
  · rcases ht with rfl | rfl | rfl | rfl | rfl | rfl | rfl <;> (cases hs; rfl)
  · rcases ht with rfl | rfl | rfl | rfl | rfl | rfl | rfl <;> (cases hs; rfl)
  · rcases ht with rfl | rfl | rfl | rfl | rfl | rfl | rfl <;> (cases hs; rfl)
  · rcases ht with rfl | rfl | rfl | rfl | rfl | rfl | rfl <;> (cases hs; rfl)
  · rcases ht with rfl | rfl | rfl | rfl | rfl | rfl | rfl <;> (cases hs; rfl)
  · cases hs
/-- isinstance(x, T) -/
theorem sim_isi {K : PySem.W.Frag} : SimC K (rIsi K) fIsi := by
  intro Z xs ds H M Q Q' S r f q
  unfold fIsi at f
  split at f
  · cases r with
    | cons r1 r2 =>
      cases r2 with
      | cons r2 r3 =>
        cases r3
        cases r2
        obtain ⟨t, b, h1, h2, z⟩ := f
        exact ⟨_, _, _, _, b, rfl, .ty _, ty_of S r1 h1, kit_of K h1 h2, q _ _ H M (Go.refl S) (.bl _) z⟩
  · exact f.elim
end L3
namespace L3
open PySem L2
/-! ### min, max of any data that can be compared -/
end L3
namespace L3
open PySem L2
/-! ### iterators that hand out new tuples: their turns from the library's walks -/
/-- n turns over what never changes (ok), the values of each turn in a new tuple -/
def ItG (n : Nat) (ok : Hp → Prop) (yv : Nat → List V) : It :=
  ⟨fun i H => ok H ∧ i < n, fun i H v H' => ∃ T, v = .ref T ∧ H T = none ∧ H' = upd H T (.tup (yv i)), fun i H => ok H ∧ n ≤ i⟩
theorem turn_G {P : Program} {w : World} {K : PySem.W.Frag} {elts : List Expr} {kk : Nat} {tpos : Pos} {n : Nat} {ok : Hp → Prop} {yv : Nat → List V} {fp wr : List Addr} {it : Addr} {tn : Nat → Heap → Prop}
    (mem : it ∈ fp) (obj : ∀ i h, tn i h → ∀ b ∈ fp, ∃ o, h.get? b = some o ∧ ∀ v, o.data ≠ .cell v) (keep : ∀ i h h', tn i h → (∀ b ∈ fp, ∀ o, h.get? b = some o → h'.get? b = some o) → tn i h')
    (self : ∀ (A : Around) (i : Nat) (s : Shared) (Q : Value → Shared → Prop) (E : Value → Shared → Prop), tn i s.heap → Q (.ref it) s → wpAny (model P w) A (pyIter (.ref it)) Q E s)
    (hle : ∀ i h, tn i h → i ≤ n) (hwr : ∀ b ∈ wr, b ∈ fp) (small : ∀ i, (yv i).length ≤ sizeLine)
    (wk : ∀ (X : Cx), X.prog = P → X.w = w → X.K = K → X.calm = true → ∀ (pins : List (Addr × Obj)) (s : Shared) (σ : L2.St) (H : Hp), Inv X pins σ H s → ok H → ∃ (fpA : List Addr) (Pt : Nat → Array Value → Prop) (St : Nat → Heap → Prop) (Mid : Nat → Addr → Heap → Prop),
      WalksT P w X.A it fpA wr n Pt St Mid ∧ (∀ i, tn i s.heap → St i s.heap) ∧ (∀ i h, St i h → tn i h) ∧ ∀ i vals, Pt i vals → Vals (yv i) vals.toList) :
    Turn P w K (.Tuple elts kk tpos) (ItG n ok yv) fp it tn where
  mem := mem
  obj := obj
  keep := keep
  self := self
  item := by
    intro X hP hw hK hc i pins s σ H E I hf st hg
    obtain ⟨hok, hlt⟩ := hg
    obtain ⟨fpA, Pt, St, Mid, W, w1, w2, w3⟩ := wk X hP hw hK hc pins s σ H I hok
    subst hP hw hK
    refine W.item i s _ _ hlt (w1 i st) fun T vals h' tk pt hT tT mid kp => ?_
    refine ⟨_, rfl, W.go elts kk tpos i T { s with heap := h', toks := tk } _ _ mid fun h'' st' kp2 => ?_⟩
    have hTw := W.apart i T h' mid
    have kk2 : ∀ b o, b ∉ fp → s.heap.get? b = some o → h''.get? b = some o := fun b o hb e => kp2 b o (fun z => hb (hwr b z)) (kp b o (fun z => hb (hwr b z)) e)
    have tT2 : h''.IsTuple T vals := tT.at fun o e => kp2 T o hTw e
    have new : ObjOk X.prog X.w (upd H T (.tup (yv i))) h'' T (.tup (yv i)) := ⟨small i, vals.toList, w3 i vals pt, by
      rw [Array.toArray_toList]
      exact tT2⟩
    have I1 : Inv X pins σ (upd H T (.tup (yv i))) { s with heap := h'', toks := tk } := I.turnedNew (t' := tk) (ch := fp) kk2 hf hT new
    refine ⟨.ref T, _, I1, rfl, ⟨T, rfl, I.hok.fresh hT, rfl⟩, w2 _ _ st', fun b hb => ?_⟩
    obtain ⟨o, ho, _⟩ := obj i _ st b hb
    rw [upd_ne (Nat.ne_of_lt (Nat.lt_of_lt_of_le (Heap.lt_size ho) hT))]
    exact (hf b hb).1
  done := by
    intro X hP hw hK hc i pins s σ H E I hf st hg
    obtain ⟨hok, hge⟩ := hg
    obtain ⟨fpA, Pt, St, Mid, W, w1, w2, w3⟩ := wk X hP hw hK hc pins s σ H I hok
    have e : i = n := Nat.le_antisymm (hle _ _ st) hge
    subst e
    subst hP hw hK
    exact W.done s _ _ (w1 _ st) fun h' tk kp => ⟨rfl, I.turnedL (t' := tk) (ch := fp) (fun b o hb e => kp b o (fun z => hb (hwr b z)) e) hf⟩
end L3
namespace L3
open PySem L2
theorem vals_at {xs : List V} {its : List Value} {i : Nat} {x : Value} (r : Vals xs its) (h : its.toArray[i]? = some x) : RelV (xs.getD i .non) x := by
  have h' : its[i]? = some x := by simpa using h
  have li := (List.getElem?_eq_some_iff.mp h').1
  have l1 := r.length
  obtain ⟨u, e2, ru⟩ := r.get (List.getElem?_eq_getElem (by omega : i < xs.length))
  rw [h'] at e2
  obtain rfl : x = u := Option.some.inj e2
  rw [List.getD_eq_getElem?_getD, List.getElem?_eq_getElem (by omega)]
  exact ru
/-! ### zip of three tuples -/
def n3 (xs ys zs : List V) : Nat := min (min xs.length ys.length) zs.length
/-! by data -/
theorem rep_getd {K : PySem.W.Frag} {H : Hp} {vs : List V} {ds : List D} (r : RepL K H vs ds) (i : Nat) (h : i < ds.length) : Rep K H (vs.getD i .non) (ds.getD i .non) := by
  obtain ⟨v, e1, e2⟩ := r.get (List.getElem?_eq_getElem h)
  rw [List.getD_eq_getElem?_getD, List.getD_eq_getElem?_getD, e1, List.getElem?_eq_getElem h]
  exact e2
end L3
namespace L3
open PySem L2
/-! ### max of three ints -/
end L3
namespace L3
open PySem L2
/-! ### vectors, distances, what lies beyond: the mathematics -/
def vec (v : List Int) : D := .tup (v.map .int)
/-- small numbers -/
def sm (v : List Int) : Prop := v.length ≤ 64 ∧ ∀ a ∈ v, -30000000 ≤ a ∧ a ≤ 30000000
def small (ns : List Int) : Prop := ns.length ≤ 64 ∧ ∀ n ∈ ns, 0 ≤ n ∧ n ≤ 10000000000000000
def rt (n : Int) : Int := (Float64.isqrt n.toNat : Nat)
def sq (k : Str) : Bool := decide (k = "square")
theorem p4 {a b : Int} (ha : 0 ≤ a) (hb : 0 ≤ b) : 0 ≤ 4 * a * b := Int.mul_nonneg (by omega) hb
end L3
namespace L3
open PySem L2
/-! the squares -/
/-! ### joining -/
/-! ### regions -/
/-- vectors of so many places with parts to B -/
def vk (p : Nat) (B : Int) (v : List Int) : Prop := v.length = p ∧ ∀ a ∈ v, -B ≤ a ∧ a ≤ B
/-! ### places of short tuples, lists -/
theorem ix_t0 {a : D} {l : List D} {M : Mp} {Q : KD} : ixD (.tup (a :: l)) (.int 0) M Q ↔ Q a M := by
  constructor
  · rintro ⟨ds, x, h, e, q⟩
    cases h
    simp [atI, ixN] at e
    exact e ▸ q
  · exact fun q => ⟨_, a, rfl, by simp [atI, ixN], q⟩
theorem ix_t1 {a b : D} {l : List D} {M : Mp} {Q : KD} : ixD (.tup (a :: b :: l)) (.int 1) M Q ↔ Q b M := by
  have z : (1 : Int) < (l.length : Int) + 1 + 1 := by omega
  constructor
  · rintro ⟨ds, x, h, e, q⟩
    cases h
    simp [atI, ixN, z] at e
    exact e ▸ q
  · exact fun q => ⟨_, b, rfl, by simp [atI, ixN, z], q⟩
theorem ix_t2 {a b c : D} {l : List D} {M : Mp} {Q : KD} : ixD (.tup (a :: b :: c :: l)) (.int 2) M Q ↔ Q c M := by
  constructor
  · rintro ⟨ds, x, h, e, q⟩
    cases h
    have z : (2 : Int) < (l.length : Int) + 1 + 1 + 1 := by omega
    simp [atI, ixN, z] at e
    exact e ▸ q
  · exact fun q => ⟨_, c, rfl, by
      have z : (2 : Int) < (l.length : Int) + 1 + 1 + 1 := by omega
      simp [atI, ixN, z], q⟩
theorem ix_t3 {a b c d : D} {M : Mp} {Q : KD} : ixD (.tup [a, b, c, d]) (.int 3) M Q ↔ Q d M := by
  constructor
  · rintro ⟨ds, x, h, e, q⟩
    cases h
    simp [atI, ixN] at e
    exact e ▸ q
  · exact fun q => ⟨_, d, rfl, by simp [atI, ixN], q⟩
theorem ix_m3 {a b c : D} {M : Mp} {Q : KD} : ixD (.tup [a, b, c]) (.int (-1)) M Q ↔ Q c M := by
  constructor
  · rintro ⟨ds, x, h, e, q⟩
    cases h
    simp [atI, ixN] at e
    exact e ▸ q
  · exact fun q => ⟨_, c, rfl, by simp [atI, ixN], q⟩
theorem ix_m4 {a b c d : D} {M : Mp} {Q : KD} : ixD (.tup [a, b, c, d]) (.int (-1)) M Q ↔ Q d M := by
  constructor
  · rintro ⟨ds, x, h, e, q⟩
    cases h
    simp [atI, ixN] at e
    exact e ▸ q
  · exact fun q => ⟨_, d, rfl, by simp [atI, ixN], q⟩
/-! names -/
theorem sn_ball_box : (("ball" : Str) = "box") = False := eq_false (by decide +kernel)
theorem sn_cell_box : (("cell" : Str) = "box") = False := eq_false (by decide +kernel)
theorem sn_cell_ball : (("cell" : Str) = "ball") = False := eq_false (by decide +kernel)
theorem sn_ball_cell : (("ball" : Str) = "cell") = False := eq_false (by decide +kernel)
theorem sn_box_ball : (("box" : Str) = "ball") = False := eq_false (by decide +kernel)
theorem sn_box_cell : (("box" : Str) = "cell") = False := eq_false (by decide +kernel)
end L3
namespace L3
open PySem L2
/-- a zip whose handed out tuple may be another's by now -/
def IsZipB (h : Heap) (z TI TO : Addr) (x : Value) (b : Bool) : Prop := h.get? z = some { cls := .type "zip", dict := none, data := .fields #[x, .bool b, .bool false, .ref TI, .ref TO], slots := #[] }
abbrev ZI := Addr × Addr × Array Value
structure ZApart (z TI TO : Addr) (its : List ZI) : Prop where
  zTI : TI ≠ z
  zTO : TO ≠ z
  TT : TI ≠ TO
  iz : ∀ q ∈ its, q.1 ≠ z ∧ q.1 ≠ TI ∧ q.1 ≠ TO
  tz : ∀ q ∈ its, q.2.1 ≠ z ∧ q.2.1 ≠ TO
  ti : ∀ q ∈ its, ∀ r ∈ its, q.2.1 ≠ r.1
  nd : (its.map (·.1)).Nodup
section
variable {prog : Program} {w : World} {A : Around} {E : Value → Shared → Prop} {s : Shared} {z TI TO : Addr} {its : List ZI} {i : Nat}
/-- what is drawn stands -/
structure ZState (h : Heap) (z TI TO : Addr) (its : List ZI) (i : Nat) (x : Value) (b : Bool) (old : List Value) : Prop where
  zip : IsZipB h z TI TO x b
  ti : h.get? TI = some { cls := .type "tuple", data := .seq (its.map fun q => Value.ref q.1).toArray }
  out : h.get? TO = some { cls := .type "tuple", data := .seq old.toArray }
  len : old.length = its.length
  iter : ∀ q ∈ its, h.IsTupleIter q.1 q.2.1 i
  tup : ∀ q ∈ its, h.IsTuple q.2.1 q.2.2
structure ZLoop (hp h : Heap) (z TI TO : Addr) (its pre suf : List ZI) (i : Nat) (x : Value) (b : Bool) (out : List Value) : Prop where
  split : its = pre ++ suf
  zip : IsZipB h z TI TO x b
  ti : h.get? TI = some { cls := .type "tuple", data := .seq (its.map fun q => Value.ref q.1).toArray }
  out : h.get? TO = some { cls := .type "tuple", data := .seq out.toArray }
  done : ∀ q ∈ pre, h.IsTupleIter q.1 q.2.1 (i + 1)
  left : ∀ q ∈ suf, h.IsTupleIter q.1 q.2.1 i
  tup : ∀ q ∈ its, h.IsTuple q.2.1 q.2.2
  keep : ∀ c o, c ≠ z → c ≠ TO → c ∉ its.map (·.1) → hp.get? c = some o → h.get? c = some o
  size : h.objs.size = hp.objs.size
theorem ZLoop.put {hp h h' : Heap} {pre suf : List ZI} {x : Value} {b : Bool} {out out' : List Value} (D : ZApart z TI TO its) (L : ZLoop hp h z TI TO its pre suf i x b out) (sb : Heap.SameBut TO h h') (ho : h'.get? TO = some { cls := .type "tuple", data := .seq out'.toArray }) : ZLoop hp h' z TI TO its pre suf i x b out' := by
  have m1 : ∀ r ∈ pre, r ∈ its := fun r hr => by rw [L.split]; exact List.mem_append_left _ hr
  have m2 : ∀ r ∈ suf, r ∈ its := fun r hr => by rw [L.split]; exact List.mem_append_right _ hr
  exact ⟨L.split, sb.extBut _ _ (Ne.symm D.zTO) L.zip, sb.extBut _ _ D.TT L.ti, ho, fun r hr => (L.done r hr).at fun o e => sb.extBut _ _ (D.iz r (m1 r hr)).2.2 e, fun r hr => (L.left r hr).at fun o e => sb.extBut _ _ (D.iz r (m2 r hr)).2.2 e,
    fun r hr => (L.tup r hr).at fun o e => sb.extBut _ _ (D.tz r hr).2 e, fun c o c1 c2 c3 e => sb.extBut _ _ c2 (L.keep c o c1 c2 c3 e), by rw [sb.1, L.size]⟩
def zval (i : Nat) (q : ZI) : Value := q.2.2.getD i .none
/-! next -/
end
end L3
namespace L3
open PySem L2
end L3
namespace L3
open PySem L2
/-! ### a zip is made -/
end L3
namespace L3
open PySem L2
/-! ### list(zip(..)) of any number of tuples of one length -/
inductive ZRel : List (Addr × List V) → List ZI → Prop
  | nil : ZRel [] []
  | cons {c : Addr × List V} {q : ZI} {cs : List (Addr × List V)} {its : List ZI} : q.2.1 = c.1 → Vals c.2 q.2.2.toList → ZRel cs its → ZRel (c :: cs) (q :: its)
def zrow (cs : List (Addr × List V)) (i : Nat) : List V := cs.map fun c => c.2.getD i .non
theorem ZRel.row {i : Nat} : ∀ {cs : List (Addr × List V)} {its : List ZI}, ZRel cs its → (∀ q ∈ its, i < q.2.2.size) → Vals (zrow cs i) (its.map (zval i))
  | _, _, .nil, _ => .nil
  | _, _, .cons (q := q) e v r, h => by
    refine .cons (vals_at v ?_) (ZRel.row r fun q' hq => h q' (List.mem_cons_of_mem _ hq))
    rw [Array.toArray_toList]
    unfold zval
    rw [Array.getD_eq_getD_getElem?, Array.getElem?_eq_getElem (h q List.mem_cons_self)]
    rfl
theorem ZRel.len : ∀ {cs : List (Addr × List V)} {its : List ZI}, ZRel cs its → its.length = cs.length
  | _, _, .nil => rfl
  | _, _, .cons _ _ r => by rw [List.length_cons, List.length_cons, r.len]
section
variable {X : Cx} {pins : List (Addr × Obj)} {σ : L2.St} {z TI TO S : Addr} {its : List ZI} {cs : List (Addr × List V)} {n : Nat} {A1 : Around}
theorem ZState.keep {h h' : Heap} {i : Nat} {x : Value} {b : Bool} {old : List Value} (st : ZState h z TI TO its i x b old) (k : ∀ c o, c ∈ z :: TI :: TO :: (its.map (·.1) ++ its.map (·.2.1)) → h.get? c = some o → h'.get? c = some o) : ZState h' z TI TO its i x b old :=
  ⟨k _ _ (by simp) st.zip, k _ _ (by simp) st.ti, k _ _ (by simp) st.out, st.len, fun q hq => (st.iter q hq).at fun o e => k _ _ (by simp; exact .inr (.inr (.inr (.inl ⟨_, _, hq⟩)))) e, fun q hq => (st.tup q hq).at fun o e => k _ _ (by simp; exact .inr (.inr (.inr (.inr ⟨_, _, hq⟩)))) e⟩
end
end L3
namespace L3
open PySem L2
end L3
namespace L3
open PySem L2
/-! ### by data -/
inductive CRel (K : PySem.W.Frag) (H : Hp) : List (Addr × List V) → List (List D) → Prop
  | nil : CRel K H [] []
  | cons {c : Addr × List V} {xs : List D} {cs : List (Addr × List V)} {xss : List (List D)} : SqT K H c.1 c.2 → RepL K H c.2 xs → CRel K H cs xss → CRel K H (c :: cs) (xs :: xss)
theorem CRel.len {K : PySem.W.Frag} {H : Hp} : ∀ {cs : List (Addr × List V)} {xss : List (List D)}, CRel K H cs xss → cs.length = xss.length
  | _, _, .nil => rfl
  | _, _, .cons _ _ r => by rw [List.length_cons, List.length_cons, r.len]
theorem CRel.row {K : PySem.W.Frag} {H : Hp} {n i : Nat} (hi : i < n) : ∀ {cs : List (Addr × List V)} {xss : List (List D)}, CRel K H cs xss → (∀ xs ∈ xss, xs.length = n) → RepL K H (zrow cs i) (xss.map fun xs => xs.getD i .non)
  | _, _, .nil, _ => .nil
  | _, _, .cons h1 h2 r, h => .cons (rep_getd h2 i (by rw [h _ List.mem_cons_self]; exact hi)) (r.row hi fun xs hx => h xs (List.mem_cons_of_mem _ hx))
def fNotB : F2 := fun d e M Q => match d, e with
  | .bl a, .bl b => Q (.bl (!decide (a = b))) M
  | _, _ => False
theorem sim_notB {K : PySem.W.Frag} : SimR K rNotB fNotB := by
  intro Z x y d e H M Q Q' S r1 r2 f q
  unfold fNotB at f
  split at f
  · cases r1
    cases r2
    exact ⟨_, _, rfl, rfl, q _ _ H M (Go.refl S) (.bl _) f⟩
  · exact f.elim
end L3
namespace L3
open PySem L2
/-! ### a string in a list or tuple of strings -/
end L3
namespace L3
open PySem L2
/-! ### comprehensions over what is mapped, filtered -/
/-- what is walked is mapped -/
theorem loop_map {α : Type} {g : WG} {wb : WS} {Ok : Mp → Prop} {D3 : Ends3} (f : α → D) (xs : List α) (P : Nat → En → Mp → Prop)
    (hs : ∀ i a ρ M, xs[i]? = some a → i < xs.length → P i ρ M → Ok M ∧ ∀ K : En → Mp → Prop, (∀ ρ' M', P (i + 1) ρ' M' → K ρ' M') → g (f a) ρ M fun ρ1 M1 => wb { D3 with nx := K, ct := K, bk := D3.nx } ρ1 M1)
    (he : ∀ ρ M, P xs.length ρ M → Ok M ∧ D3.nx ρ M) {ρ : En} {M : Mp} (h : P 0 ρ M) : wLoop g wb Ok D3 (xs.map f) ρ M := by
  refine loop_ix P (fun i d ρ M hi hP => ?_) (fun ρ M hP => he ρ M (by rw [List.length_map] at hP; exact hP)) h
  rw [List.getElem?_map] at hi
  cases e : xs[i]? with
  | none =>
    rw [e] at hi
    cases hi
  | some a =>
    rw [e] at hi
    cases hi
    exact hs i a ρ M e (List.getElem?_eq_some_iff.mp e).1 hP
theorem if_gen {t : WT} {a b : WS} {D3 : Ends3} {ρ : En} {M : Mp} (h : ∀ A, A = a → wIfS t A b D3 ρ M) : wIfS t a b D3 ρ M := h a rfl
end L3
namespace L3
open PySem L2
/-! ### what is raised -/
/-- an expression out of which something may be raised -/
def SimX (K : PySem.W.Frag) (W : WX3) (t : TE) (w : XR → WE) : Prop := ∀ (xr : XR) (Z : Hp) (ρ : En) (M : Mp) (σ : L2.St) (H : Hp) (Q : KD) (Q' : VK), R3 K Z ρ M σ H → w xr ρ M Q → (∀ v d H' M', Go K Z H M H' M' → Rep K (fz Z H' M') v d → Q d M' → Q' v H') →
  (∀ x C dx vs (fs : XV) H' M', ClsAt K x C → Go K Z H M H' M' → fz Z H' M' dx = some (.xd (fs.1.zip vs)) → fs.1.length = vs.length → RepL K (fz Z H' M') vs fs.2 → xr x dx fs ρ M' → W (.ref C) (some dx) σ H') → t σ H Q'
structure DX (X : Cx) (W : WX3) (e : Expr) (t : TE) (w : XR → WE) : Prop where
  pe : PE X e t
  sm : SimX X.K W t w
section
variable {X : Cx} {W : WX3} {e : Expr} {es : List Expr} {t te : TE} {we : WE} {wx : XR → WE} {pos p : Pos} {k : Nat} {tr tk : TA} {wr wk : WA} {x : Str} {st : Stmt} {ps : List Str} {F : Fs} {kws : List Keyword} {f : Addr} {fd : FuncData} {sp : Sp} {E : L2.St → XK}
theorem run_gX {pins : List (Addr × Obj)} {σ : L2.St} {H : Hp} {s : Shared} {Q : VK} {us ws : List Value} {vs : List V} {kw : List (Str × Value)} (G : FnG X.prog X.w X.K X.mg X.base k f fd ps sp) (hr : Room k X.A) (gd : X.A.guards = some [])
    (hx : PassesAt (L2.CX X.prog X.w) X σ (E σ)) (I : Inv X pins σ H s) (hb : BindsTo s fd ⟨us, kw⟩ (ps.zip ws)) (r : Vals vs ws) (h : sp vs H Q (E σ)) : wpAny (model X.prog X.w) X.A (call (.ref f) us kw) (EP X pins σ Q) X.xe s := by
  refine wpAny_call (codeAny_mono (G.run X.A X.stack s H ⟨us, kw⟩ ws vs Q (E σ) gd hr I.env0 hb r h) fun rr s' hq => ?_)
  cases rr with
  | error er => exact hx pins H s er s' I hq
  | ok fl =>
    cases fl with
    | ret u => exact I.after hq
    | next => exact hq.elim
    | brk => exact hq.elim
    | cont => exact hq.elim
def tCallX (sp : Sp) (E : L2.St → XK) (t : TA) : TE := fun σ H Q => t σ H fun vs J => sp vs J Q (E σ)
theorem pe_callX (G : FnG X.prog X.w X.K X.mg X.base k f fd ps sp) (hr : Room k X.A) (gd : X.A.guards = some []) (hg : Gl X x) (hm : X.mg x = some (.ref f)) (hk : PySem.W.keepIn X.K (.ref f) = true) (hb : Binds X.K fd ps []) (hx : ∀ σ, PassesAt (L2.CX X.prog X.w) X σ (E σ))
    (ha : PA X (e :: es) tr) (hdb : (x == ("__debug__" : Str)) = false := by decide) (he : starEach (e :: es) X.env = (false, eval e X.env) :: starEach es X.env := by rfl) (hpl : (backTo pos (starEach es X.env)).any (·.1) = false := by rfl) :
    PE X (.Call (.Name x p) (e :: es) [] pos) (tCallX sp E tr) := by
  refine ⟨fun pins s σ H Q I h => wpAny_Call_Name_kw (ld_glob I hg hm ?_ hdb)⟩
  refine PySem.W.callWith_K (h₀ := X.base) I.ok.mod.kin hk (thn (ha.run pos pins s σ H _ I h) fun us s1 ⟨vs, J, I1, r, q⟩ => ⟨I1.kIn, ?_⟩) he hpl
  have hl : (us ++ []).length = ps.length := by rw [List.append_nil, ← r.length]; exact G.len _ _ _ _ q
  have z := hb s1 us I1.kIn hl
  rw [List.append_nil] at z
  exact run_gX (us := us) (kw := []) G hr gd (hx σ) I1 z r q
/-- a call by its contract, what it raises is wished for -/
def wCallX (F : Fs) (r : WA) : XR → WE := fun xr ρ M Q => r ρ M fun ds M1 => F ds M1 Q fun x fs M2 => ∀ dx, xr x dx fs ρ M2
theorem sim_callX {K : PySem.W.Frag} (ha : SimA K tr wr) : SimX K W (tCallX (lift K F) (L2.WE W) tr) (wCallX F wr) := by
  intro xr Z ρ M σ H Q Q' s h q qx
  refine ha Z ρ M σ H _ _ s h fun xs ds H1 M1 g1 r1 q1 => ?_
  exact ⟨Z, ds, M1, Q, _, g1.sat, r1, q1, fun v d H2 M2 g2 r2 q2 => q v d H2 M2 (g1.trans g2) r2 q2, fun x C dx vs fs H2 M2 ca g2 e2 l2 r2 z => qx x C dx vs fs H2 M2 ca (g1.trans g2) e2 l2 r2 (z dx)⟩
theorem dx_h (h : Has X.prog X.w X.K X.mg X.base k x st ps F) (hr : Room k X.A) (gd : X.A.guards = some []) (tw : Takes X W) (ha : DA X (e :: es) tr wr) (hg : Gl X x := by rfl) (hdb : (x == ("__debug__" : Str)) = false := by decide)
    (he : starEach (e :: es) X.env = (false, eval e X.env) :: starEach es X.env := by rfl) (hpl : (backTo pos (starEach es X.env)).any (·.1) = false := by rfl) : DX X W (.Call (.Name x p) (e :: es) [] pos) (tCallX (lift X.K F) (L2.WE W) tr) (wCallX F wr) := by
  obtain ⟨f, fd, G, hm, Fn, hb⟩ := h.ex
  exact ⟨pe_callX G hr gd hg hm Fn.kp hb (fun σ => passAt tw σ) ha.pe hdb he hpl, sim_callX ha.sm⟩
/-! statements with such an expression -/
def wAsgX (w : XR → WE) (g : WG) : WS := fun D ρ M => w D.xr ρ M fun d M1 => g d ρ M1 D.nx
theorem ds_setX (i : Nat) {x : Str} {pos' : Pos} (hN : X.N.Nodup) (he : DX X W e te wx) (hi : X.N[i]? = some x := by rfl) (hx : Loc X.env.scope x := by first | exact .inl rfl | exact .inr rfl) (hs : swapsWith e (some (.Name x pos')) pos.line X.env = pure false := by rfl)
    (hf : X.fn x = true ∨ X.env.scope.names.lookup x = some .local := by first | exact .inl rfl | exact .inr rfl) : DS X W (.Assign [.Name x pos'] e pos) (tAsg te (gName i)) (wAsgX wx (wgName i)) :=
  ⟨ps_set hN hi hx he.pe hs hf, fun Z D3 ρ M σ H D r h en => he.sm D3.xr Z ρ M σ H _ _ r h
    (fun v d H1 M1 g r1 q => en.nx _ M1 _ H1 ⟨g.sat, (r.go g).env.set i r1⟩ g q) fun x C dx vs fs H1 M1 ca g e1 l1 r1 z => en.xr x C dx vs fs ρ σ H1 M1 ca (r.go g) g e1 l1 r1 z⟩
end
end L3
namespace L3
open PySem L2
/-! ### own classes of errors: their making, their raising -/
/-- what an own __init__ does that stores its parameters -/
def spI (K : PySem.W.Frag) (ns : List Str) : Sp := fun vs H Q _ => ∃ (a C : Addr) (ys : List V), vs = .ref a :: ys ∧ ys.length = ns.length ∧ OexC K C ∧ (∀ f ∈ ns, PySem.W.findIn K (.ref C) f = some none) ∧ H a = some (exo a C none) ∧
  ∀ dx, H dx = none → dx ≠ a → Q .non (upd (upd H dx (exd dx (ns.zip ys).reverse)) a (exo a C (some dx)))
/-- a class of errors by its name, with its fields as __init__ stores them -/
structure Err (P : Program) (w : World) (K : PySem.W.Frag) (mg : Str → Option Value) (base : Heap) (k : Nat) (x : Str) (ps ns : List Str) : Prop where
  ex : ∃ (C fI : Addr) (fd : FuncData), ClsAt K x C ∧ mg x = some (.ref C) ∧ OexC K C ∧ XfC K C ∧ PySem.W.findIn K (.ref C) "__init__" = some (some (.ref fI)) ∧ PySem.W.typeIn K (.ref fI) = some (.type "function") ∧
    (∀ f ∈ ns, PySem.W.findIn K (.ref C) f = some none) ∧ FnOk P w K mg base (L2.CX P w) k fI fd ps (spI K ns) ∧ Binds K fd ps []
/-- raise x(..) -/
def wRaise (x : Str) (ns : List Str) (wr : WA) : WS := fun D ρ M => wr ρ M fun ds M1 => ds.length = ns.length ∧ ds.length ≤ 1000 ∧ ∀ dx, D.xr x dx (ns.reverse, ds.reverse) ρ M1
theorem zip_rev {α β : Type} {xs : List α} {ys : List β} (h : xs.length = ys.length) : (xs.zip ys).reverse = xs.reverse.zip ys.reverse := by
  unfold List.zip
  exact List.reverse_zipWith h
theorem RepL.rev {K : PySem.W.Frag} {H : Hp} : ∀ {vs : List V} {ds : List D}, RepL K H vs ds → RepL K H vs.reverse ds.reverse
  | _, _, .nil => .nil
  | _, _, .cons r t => by
    rw [List.reverse_cons, List.reverse_cons]
    exact t.rev.app (.cons r .nil)
section
variable {X : Cx} {W : WX3} {e : Expr} {es : List Expr} {tr : TA} {wr : WA} {x : Str} {ps ns : List Str} {k : Nat} {p pos pos2 : Pos}
theorem ds_raise (h : Err X.prog X.w X.K X.mg X.base k x ps ns) (hc : X.calm = true) (hr : Room (k + 1) X.A) (tw : Takes X W) (ha : DA X (e :: es) tr wr) (hg : Gl X x := by rfl)
    (hdb : (x == ("__debug__" : Str)) = false := by decide) (he : starEach (e :: es) X.env = (false, eval e X.env) :: starEach es X.env := by rfl) (hpl : (backTo pos (starEach es X.env)).any (·.1) = false := by rfl) :
    ∃ t, DS X W (.Raise (some (.Call (.Name x p) (e :: es) [] pos)) none pos2) t (wRaise x ns wr) := by
  obtain ⟨C, fI, fd, hcl, hm, T, _, iC, tI, hno, F1, hb⟩ := h.ex
  refine ⟨_, ps_raise hc tw (pmk_oex T iC tI F1 hr hb .nil passL hg hm ha.pe hdb he hpl), fun Z D3 ρ M σ H D r h en => ?_⟩
  refine ha.sm Z ρ M σ H _ _ r h fun vs ds H1 M1 g1 r1 ⟨l1, l2, q1⟩ => ⟨by rw [r1.len]; exact l2, fun a hna => ?_⟩
  refine ⟨a, C, vs, by rw [List.append_nil], by rw [r1.len]; exact l1, T, hno, upd_same, fun dx hdx hne => ⟨rfl, dx, (ns.zip vs).reverse, upd_same, ?_, ?_, ?_⟩⟩
  · rw [upd_ne hne, upd_same]
  · rwa [upd_ne hne] at hdx
  · rw [upd_ne hne] at hdx
    have eq : upd (L2.del (upd (upd (upd H1 a (exo a C none)) dx (exd dx (ns.zip vs).reverse)) a (exo a C (some dx))) a) dx (.xd (ns.zip vs).reverse) = upd H1 dx (.xd (ns.zip vs).reverse) := by
      funext b
      by_cases hb : b = dx
      · subst hb
        rw [upd_same, upd_same]
      · rw [upd_ne hb, upd_ne hb]
        by_cases hb2 : b = a
        · subst hb2
          rw [L2.del_same, hna]
        · rw [L2.del_ne hb2, upd_ne hb2, upd_ne hb, upd_ne hb2]
    show W (.ref C) (some dx) σ (upd (L2.del (upd (upd (upd H1 a (exo a C none)) dx (exd dx (ns.zip vs).reverse)) a (exo a C (some dx))) a) dx (.xd (ns.zip vs).reverse))
    rw [eq]
    have l3 : ns.length = vs.length := by rw [r1.len]; exact l1.symm
    obtain ⟨g2, n2⟩ := Go.laid (p := dx) (o := .xd (ns.zip vs).reverse) g1.sat hdx
    rw [zip_rev l3] at g2 n2 ⊢
    exact en.xr x C dx vs.reverse (ns.reverse, ds.reverse) ρ σ _ M1 hcl (r.go (g1.trans g2)) (g1.trans g2) n2 (by rw [List.length_reverse, List.length_reverse]; exact l3) (r1.rev.up g2.ex) (q1 dx)
end
theorem takes_top {P : Program} {w : World} {K : PySem.W.Frag} {mg : Str → Option Value} {base : Heap} {N : List Str} {qual : Str} {sc : Scope} {f : Addr} {cdv : Value} {A : Around} {outer : List Env} {s : Shared} {H : Hp} {E : XK} :
    Takes (cxOf (L2.CX P w) P w K mg base N qual sc f cdv A outer s H E) (lw E) := takes_of rfl rfl rfl rfl
end L3
namespace L3
open PySem L2
/-! ### try -/
/-- a context that never is -/
theorem takes_void {X : Cx} {W : WX3} {o : Obj} : Takes (X.tr [(X.env.locals, o)] (fun _ _ => False)) W := fun u s' ⟨a, B, sI, pins, σ, H, cls, d, e, I, _⟩ => by
  have z := I.pin (X.env.locals, o) (List.mem_append_left _ List.mem_cons_self)
  exact z.2.2.1 rfl
/-- the wish of a try's body: a table says which classes are caught, ws is what then follows -/
def wTryAs (i : Nat) (hit : Str → Option Bool) (wb : WS) (ws : Addr → Str → Addr → WS) : WS := fun D ρ M => wb { D with xr := fun y dx fs ρ' M' => match hit y with
  | some true => ∀ a, ws a y dx { nx := fun ρ2 M2 => D.nx (ρ2.set i none) M2, rt := D.rt, bk := fun ρ2 M2 => D.bk (ρ2.set i none) M2, ct := fun ρ2 M2 => D.ct (ρ2.set i none) M2 } (ρ'.set i (some (.exc a y dx fs.1 fs.2))) M'
  | some false => D.xr y dx fs ρ' M'
  | none => False } ρ M
theorem RelS.gone {K : PySem.W.Frag} {H : Hp} {σ : L2.St} {ρ : En} (h : RelS K H σ ρ) (j : Nat) : RelS K H (σ.set j none) (ρ.set j none) := by
  refine ⟨by rw [List.length_set, List.length_set]; exact h.1, fun i e q => ?_⟩
  by_cases hij : i = j
  · subst hij
    by_cases hl : i < ρ.length
    · rw [List.getElem?_set_self hl] at q
      cases q
    · rw [List.getElem?_eq_none (by rw [List.length_set]; omega)] at q
      cases q
  · rw [List.getElem?_set_ne (Ne.symm hij)] at q ⊢
    exact h.2 i e q
/-- the context, to be named -/
structure CxIs (X : Cx) : Prop where
/-- a table of classes, by their names, against the class that a clause names -/
def Hits (K : PySem.W.Frag) (c : Value) (hit : Str → Option Bool) : Prop := ∀ (y : Str) (C : Addr) (b : Bool), ClsAt K y C → hit y = some b → PySem.W.exmOne K (.ref C) c = some b
/-- nothing -/
def o0 : Obj := ⟨.none, none, .fields #[], #[]⟩
def tsOf (K : PySem.W.Frag) (hit : Str → Option Bool) (ts : Addr → Str → Addr → Addr → Obj → List (Addr × Obj) → TS) (a : Addr) (cls : Value) (d : Option Addr) : TS := fun D σ H => ∃ y C dx, cls = .ref C ∧ d = some dx ∧ ClsAt K y C ∧ hit y = some true ∧ ts a y C dx o0 [] D σ H
section
variable {X : Cx} {W : WX3} {x n : Str} {c : Value} {i : Nat} {body suite : List Stmt} {b₀ : Stmt} {np pos pos' : Pos} {tb : WX3 → List (Addr × Obj) → (Value → Shared → Prop) → TS} {ts : Addr → Str → Addr → Addr → Obj → List (Addr × Obj) → TS} {wb : WS} {ws : Addr → Str → Addr → WS} {hit : Str → Option Bool}
theorem suite_pe (hS : ∀ (a : Addr) (oe : Obj) (y : Str) (C dx : Addr) (pn : List (Addr × Obj)), CxIs X → Zc (.ref C) (some dx) oe → (∃ vs, oe.data = .fields vs) → ClsAt X.K y C → hit y = some true → DSs (X.suite a ((a, oe) :: pn)) (fun _ _ _ _ => False) (b₀ :: suite) (ts a y C dx oe pn) (ws a y dx))
    (hts : ∀ a y C dx oe pn, ts a y C dx oe pn = ts a y C dx o0 []) (a : Addr) (oe : Obj) (cls : Value) (d : Option Addr) (pn : List (Addr × Obj)) (z : Zc cls d oe) (f : ∃ vs, oe.data = .fields vs) : PSs (X.suite a ((a, oe) :: pn)) (b₀ :: suite) (tsOf X.K hit ts a cls d) := by
  refine ⟨fun pins s σ H D I ⟨y, C, dx, e1, e2, ca, hy, h⟩ => ?_⟩
  subst e1
  subst e2
  rw [← hts a y C dx oe pn] at h
  exact (hS a oe y C dx pn ⟨⟩ z f ca hy).pe.run pins s σ H D I h
theorem ds_try_as (hs : X.stack = X.env :: X.outer) (hf : X.env.frame = some X.env.locals) (hN : X.N.Nodup) (hi : X.N[i]? = some n) (hln : X.env.kindOf n = some .local) (hc : Names X x c) (tw : Takes X W) (hh : Hits X.K c hit)
    (hb : ∀ (W' : WX3) (pn : List (Addr × Obj)) (xe : Value → Shared → Prop), Takes (X.tr pn xe) W' → PassesOwn (model X.prog X.w) X.A X.env xe → DSs (X.tr pn xe) W' body (tb W' pn xe) wb)
    (hS : ∀ (a : Addr) (oe : Obj) (y : Str) (C dx : Addr) (pn : List (Addr × Obj)), CxIs X → Zc (.ref C) (some dx) oe → (∃ vs, oe.data = .fields vs) → ClsAt X.K y C → hit y = some true → DSs (X.suite a ((a, oe) :: pn)) (fun _ _ _ _ => False) (b₀ :: suite) (ts a y C dx oe pn) (ws a y dx))  (htb : ∀ W' pn xe, tb W' pn xe = tb W' [] (fun _ _ => False) := by intros; rfl) (hts : ∀ a y C dx oe pn, ts a y C dx oe pn = ts a y C dx o0 [] := by intros; rfl) :
    DS X W (.Try body [.ExceptHandler (some (.Name x np)) (some n) (b₀ :: suite) pos'] [] [] pos) (fun D σ H => tb (wAs X.K c i (tsOf X.K hit ts) W D) [] (fun _ _ => False) D σ H) (wTryAs i hit wb ws) := by
  refine ⟨ps_try_as hs hf hN hi hln hc tw (tb := fun W' => tb W' [] (fun _ _ => False)) (fun W' pn xe tk pw => htb W' pn xe ▸ (hb W' pn xe tk pw).pe) (suite_pe hS hts), fun Z D3 ρ M σ H D r h en => ?_⟩
  have sm := (hb (wAs X.K c i (tsOf X.K hit ts) W D) [(X.env.locals, ⟨.none, none, .fields #[], #[]⟩)] (fun _ _ => False) takes_void PassesOwn.never).sm
  rw [htb] at sm
  refine sm Z _ ρ M σ H D r h ⟨en.nx, en.rt, en.bk, en.ct, fun y C dx vs fs ρ' σ' H' M' ca r' g e1 l1 rf z => ?_⟩
  dsimp only at z
  cases hy : hit y with
  | none =>
    rw [hy] at z
    exact z.elim
  | some b =>
    rw [hy] at z
    refine ⟨b, hh y C b ca hy, fun hb' a _ => ?_, fun hb' => ?_⟩
    · subst hb'
      have sm2 := (hS a ⟨.ref C, some dx, .fields #[], #[]⟩ y C dx [] ⟨⟩ ⟨rfl, rfl⟩ ⟨_, rfl⟩ ca hy).sm
      rw [hts] at sm2
      refine ⟨y, C, dx, rfl, rfl, ca, hy, sm2 Z _ _ M' _ H' _ ⟨r'.sat, r'.env.set i (.exc e1 l1 rf)⟩ (z a) ⟨fun ρ2 M2 σ2 H2 r2 g2 q => ?_, fun v d H2 M2 g2 r2 q => en.rt v d H2 M2 (g.trans g2) r2 q, fun ρ2 M2 σ2 H2 r2 g2 q => ?_, fun ρ2 M2 σ2 H2 r2 g2 q => ?_, fun _ _ _ _ _ _ _ _ _ _ _ _ _ _ _ z => z.elim⟩⟩
      · exact en.nx _ _ _ _ ⟨r2.sat, r2.env.gone i⟩ (g.trans g2) q
      · exact en.bk _ _ _ _ ⟨r2.sat, r2.env.gone i⟩ (g.trans g2) q
      · exact en.ct _ _ _ _ ⟨r2.sat, r2.env.gone i⟩ (g.trans g2) q
    · subst hb'
      exact en.xr y C dx vs fs ρ' σ' H' M' ca r' g e1 l1 rf z
end
/-! ### in an except suite -/
/-- what a class of errors says of itself -/
structure ErrF (K : PySem.W.Frag) (C : Addr) : Prop where
  xf : XfC K C
  cl : (PySem.W.clsIn K C).isSome = true
  ha : PySem.W.findIn K (.ref C) "__class__" = some (some (.builtin "object.__class__"))
  hn : PySem.W.specialIn K (.builtin "object.__class__") "__get__" = some (some (.builtin "getset_descriptor.__get__"))
  ht : PySem.W.takesIn K (.builtin "object.__class__") = some true
  hm : PySem.W.mroIn K C (.type "object") = some true
section
variable {X : Cx} {a C dx : Addr} {oe : Obj} {y f x : Str} {pn : List (Addr × Obj)} {e : Expr} {te : TE} {we : WE} {p p2 pos : Pos}
/-- e.f, e the error that is held -/
def wXf (a : Addr) (y : Str) (dx : Addr) (f : Str) (we : WE) : WE := fun ρ M Q => we ρ M fun d M1 => match d with
  | .exc a' y' dx' ns ds => a' = a ∧ y' = y ∧ dx' = dx ∧ ∃ d, (ns.zip ds).lookup f = some d ∧ Q d M1
  | _ => False
theorem lookup_rep {K : PySem.W.Frag} {H : Hp} {f : Str} {d : D} : ∀ {ns : List Str} {vs : List V} {ds : List D}, ns.length = vs.length → RepL K H vs ds → (ns.zip ds).lookup f = some d → ∃ v, (ns.zip vs).lookup f = some v ∧ Rep K H v d
  | [], _, _, _, _, h => by cases h
  | n :: ns, [], _, l, _, _ => by cases l
  | n :: ns, v :: vs, _, l, .cons (d := d') (ds := ds') r t, h => by
    have h' : (match f == n with | true => some d' | false => (ns.zip ds').lookup f) = some d := h
    show ∃ v', (match f == n with | true => some v | false => (ns.zip vs).lookup f) = some v' ∧ Rep K H v' d
    cases q : f == n with
    | true =>
      rw [q] at h'
      cases h'
      exact ⟨v, rfl, r⟩
    | false =>
      rw [q] at h'
      exact lookup_rep (Nat.succ.inj l) t h'
theorem de_xf (T : ErrF X.K C) (hno : PySem.W.findIn X.K (.ref C) f = some none) (hz : Zc (.ref C) (some dx) oe) (hf : ∃ vs, oe.data = .fields vs) (he : DE (X.suite a ((a, oe) :: pn)) e te we) (hb : attributeBase e f X.env (eval e X.env) = eval e X.env := by rfl) :
    DE (X.suite a ((a, oe) :: pn)) (.Attribute e f pos) (tXf a (.ref C) (some dx) C f te) (wXf a y dx f we) := by
  refine ⟨pe_xf T.xf hno hz hf he.pe hb, fun Z ρ M σ H Q Q' s h q => ?_⟩
  refine he.sm Z ρ M σ H _ _ s h fun v d H1 M1 g1 r1 q1 => ?_
  cases d with
  | exc a' y' dx' ns ds =>
    obtain ⟨rfl, rfl, rfl, d, hl, q2⟩ := q1
    cases r1 with
    | exc h1 l1 rl =>
      obtain ⟨v, hv, rv⟩ := lookup_rep l1 rl hl
      exact ⟨rfl, rfl, dx', _, v, rfl, fz_sub _ _ h1, hv, q v d H1 M1 g1 rv q2⟩
  | _ => exact q1.elim
/-- isinstance(e, c), c an own class of errors, or ValueError -/
def rIsX (K : PySem.W.Frag) (D a dx : Addr) (cv : Value) : List V → Hp → VK → Prop := fun xs H Q => ∃ (c : V) (b : Bool) (fs : List (Str × V)), xs = [.ref a, c] ∧ (∀ u, RelV c u → u = cv) ∧ H dx = some (.xd fs) ∧ PySem.W.kitOne K (.ref D) cv = some b ∧ Q (.bl b) H
theorem call_isX {cv : Value} (T : ErrF X.K C) (hz : Zc (.ref C) (some dx) oe) (hf : ∃ vs, oe.data = .fields vs) : CallR (X.suite a ((a, oe) :: pn)) (.builtin "isinstance") (rIsX X.K C a dx cv) := by
  intro pins s σ H xs us Q I r h
  obtain ⟨c, b, fs, rfl, hcv, hd, e, q⟩ := h
  cases r with
  | cons rx rr =>
  cases rr with
  | cons rt rr =>
  cases rr
  cases rx
  have ec := hcv _ rt
  subst ec
  obtain ⟨hget, _⟩ := I.pin (a, oe) (List.mem_append.mpr (.inl List.mem_cons_self))
  obtain ⟨vs, hv⟩ := hf
  obtain ⟨mA, hns, _⟩ : ObjOk X.prog X.w H s.heap dx (.xd fs) := I.hok dx _ hd
  obtain ⟨od, ho, _⟩ := lookIn_ns hns
  have J : PySem.W.InstAt s.heap a oe C (some od) := ⟨hget, hz.1, by unfold PySem.W.notCls; rw [hv] <;> rfl, by rw [hz.2]; exact ho⟩
  exact PySem.W.kia_one (PySem.W.kitx_exc T.cl T.xf.ga T.xf.gg T.xf.exC T.ha T.hn T.ht T.hm) I.kIn J e (fun z => nomatch z) fun tk => ⟨.bl b, H, I.kept (t' := tk) fun _ _ z => z, rfl, q⟩
def wIsX (a : Addr) (y : Str) (dx : Addr) (tab : Str → Option Bool) (we : WE) : WE := fun ρ M Q => we ρ M fun d M1 => match d with
  | .exc a' y' dx' _ _ => a' = a ∧ y' = y ∧ dx' = dx ∧ ∃ b, tab y = some b ∧ Q (.bl b) M1
  | _ => False
theorem de_isX {tab : Str → Option Bool} {v : V} {cv : Value} (T : ErrF X.K C) (ca : ClsAt X.K y C) (ht : ∀ C' b, ClsAt X.K y C' → tab y = some b → PySem.W.kitOne X.K (.ref C') cv = some b) (hz : Zc (.ref C) (some dx) oe) (hf : ∃ vs, oe.data = .fields vs)
    (hv : ∀ u, RelV v u → u = cv) (hm : X.mg "isinstance" = none) (he : DE (X.suite a ((a, oe) :: pn)) e te we) (hc : PE (X.suite a ((a, oe) :: pn)) (.Name x p2) (tC v)) (hg : Gl X "isinstance" := by rfl)
    (hs : starEach [e, .Name x p2] X.env = (false, eval e X.env) :: starEach [.Name x p2] X.env := by rfl) (hpl : (backTo pos (starEach [.Name x p2] X.env)).any (·.1) = false := by rfl)
    (hs2 : starEach [.Name x p2] X.env = [(false, eval (.Name x p2) X.env)] := by rfl) :
    DE (X.suite a ((a, oe) :: pn)) (.Call (.Name "isinstance" p) [e, .Name x p2] [] pos) (tCB (rIsX X.K C a dx cv) (tCons te (tCons (tC v) tNil))) (wIsX a y dx tab we) := by
  refine ⟨pe_callB (call_isX T hz hf) hg hm (by decide +kernel) (pa_cons he.pe (pa_cons hc pa_nil hs2) hs) (by decide) (by decide) hs hpl, fun Z ρ M σ H Q Q' s h q => ?_⟩
  refine he.sm Z ρ M σ H _ _ s h fun w d H1 M1 g1 r1 q1 => ?_
  cases d with
  | exc a' y' dx' ns ds =>
    obtain ⟨rfl, rfl, rfl, b, hb, q2⟩ := q1
    cases r1 with
    | exc h1 l1 rl => exact ⟨v, b, _, rfl, hv, fz_sub _ _ h1, ht C b ca hb, q _ _ H1 M1 g1 (.bl b) q2⟩
  | _ => exact q1.elim
end
end L3
namespace L3
open PySem L2
/-! ### plain values compared where an error is handled; tables of classes -/
theorem tab_in {L : List (Str × Bool)} {N : List Str} {y : Str} {b : Bool} (h : L.lookup y = some b) (hs : ∀ p ∈ L, p.1 ∈ N) : y ∈ N := by
  induction L with
  | nil => cases h
  | cons p L ih =>
    obtain ⟨x, c⟩ := p
    have h' : (match y == x with | true => some c | false => L.lookup y) = some b := h
    cases q : y == x with
    | true =>
      rw [beq_iff_eq.mp q]
      exact hs _ List.mem_cons_self
    | false =>
      rw [q] at h'
      exact ih h' fun p hp => hs p (List.mem_cons_of_mem _ hp)
theorem tab_mem {L : List (Str × Bool)} {y : Str} {b : Bool} (h : L.lookup y = some b) : (y, b) ∈ L := by
  induction L with
  | nil => cases h
  | cons p L ih =>
    obtain ⟨x, c⟩ := p
    have h' : (match y == x with | true => some c | false => L.lookup y) = some b := h
    cases q : y == x with
    | true =>
      rw [q] at h'
      cases h'
      rw [beq_iff_eq.mp q]
      exact List.mem_cons_self
    | false =>
      rw [q] at h'
      exact List.mem_cons_of_mem _ (ih h')
theorem cls_one {K : PySem.W.Frag} {y : Str} {C C' : Addr} (h : ClsAt K y C) (h' : ClsAt K y C') : C = C' := by
  unfold ClsAt at h h'
  rw [h] at h'
  cases h'
  rfl
/-- a table of classes from its entries -/
theorem hits_of {K : PySem.W.Frag} {c : Value} {L : List (Str × Bool)} (h : ∀ p ∈ L, ∃ C, ClsAt K p.1 C ∧ PySem.W.exmOne K (.ref C) c = some p.2) : Hits K c (fun x => L.lookup x) := fun y C b ca hy => by
  obtain ⟨C', c1, c2⟩ := h (y, b) (tab_mem hy)
  rw [cls_one ca c1]
  exact c2
theorem kits_of {K : PySem.W.Frag} {c : Value} {L : List (Str × Bool)} (h : ∀ p ∈ L, ∃ C, ClsAt K p.1 C ∧ PySem.W.kitOne K (.ref C) c = some p.2) : ∀ y C b, ClsAt K y C → L.lookup y = some b → PySem.W.kitOne K (.ref C) c = some b := fun y C b ca hy => by
  obtain ⟨C', c1, c2⟩ := h (y, b) (tab_mem hy)
  rw [cls_one ca c1]
  exact c2
theorem cls_all {K : PySem.W.Frag} {N : List Str} {Φ : Addr → Prop} (h : ∀ x ∈ N, ∃ C, ClsAt K x C ∧ Φ C) : ∀ y C, ClsAt K y C → y ∈ N → Φ C := fun y C ca hy => by
  obtain ⟨C', c1, c2⟩ := h y hy
  rw [cls_one ca c1]
  exact c2
/-- the j-th statement of a class's body -/
def clsAt (s : Stmt) (j : Nat) : Stmt := match s with
  | .ClassDef _ _ _ body _ _ _ _ _ _ _ => body.getD j (.Pass ⟨0, 0, 0, 0⟩)
  | s => s
end L3
namespace L3
open PySem L2
/-! ### a value is itself -/
theorem eqD_refl {n : Nat} {d : D} (f : fit n d) : eqD d d = true := PySem.SeqAt.eqv_refl d.py (fit_lay n d f).1
theorem eqV_self {neg : Bool} {M : Mp} {Q : KD} {n : Nat} {d : D} (hn : n ≤ 60) (f : fit n (res M d)) (q : Q (.bl (!neg)) M) : eqV neg d d M Q := by
  have main : eqD2 neg d d M Q := ⟨⟨n, hn, f, f⟩, by
    rw [eqD_refl f]
    cases neg <;> exact q⟩
  have sc : ∀ P : Prop, [Decidable P] → P → Q (.bl (if neg = true then !decide P else decide P)) M := fun P _ h => by
    rw [decide_eq_true h]
    cases neg <;> exact q
  cases d with
  | int i => exact sc _ rfl
  | str x => exact sc _ rfl
  | bl b => exact sc _ rfl
  | _ => first | exact main | exact sc _ rfl | exact sc _ trivial
theorem repr_of {M : Mp} {Q : KD} {n : Nat} {d : D} (hn : n ≤ 60) (h : shw n (res M d)) (hc : cost (res M d) ≤ 16000000) (q : Q (.str (shown (res M d))) M) : fRepr [d] M Q := ⟨⟨n, hn, h⟩, hc, q⟩
theorem kit_of_exm {K : PySem.W.Frag} {t c : Value} {b : Bool} (h : PySem.W.exmOne K t c = some b) (e : (t == c) = true → b = true) : PySem.W.kitOne K t c = some b := by
  unfold PySem.W.exmOne at h
  unfold PySem.W.kitOne
  split at h
  · split
    · rename_i h2
      rw [e h2]
    · exact h
  · cases h
end L3
namespace L3
open PySem L2
/-! ### sorted -/
end L3
namespace L3
open PySem L2
/-! ### enumerate(a tuple) -/
theorem enum_newT {v : Value} {o : Obj} {Fh : Heap → Prop} (B : Begins v o Fh) :
    Meets (Builtin.«enumerate.__new__» ⟨[.type "enumerate", v], []⟩) (fun _ R s => Fh s.heap ∧
      R (.ok (.ret (.ref (s.heap.push o).objs.size))) { s with heap := (s.heap.push o).push { cls := .type "enumerate", data := .fields #[.none, .bool false, .ref s.heap.objs.size, rawInt 0, .none, .none] } }) :=
  .of_wp fun prog w A R s h => by
    obtain ⟨hp, g, d, tk, os⟩ := s
    obtain ⟨h1, h⟩ := h
    have sub := sub_enumerate
    have qi : ∀ {A' : Around} {E : Value → Shared → Prop} {Q : Value → Shared → Prop}, Q (.ref hp.objs.size) ⟨hp.push o, g, d, tk, os⟩ → wpAny (model prog w) A' (pyIter v) Q E ⟨hp, g, d, tk, os⟩ :=
      fun q => B.iter prog w _ _ ⟨hp, g, d, tk, os⟩ _ h1 q
    wp_walk using qi
    refine wpAny_stack_any fun st => wpAny_pure ?_
    split
    · rename_i c _ _ _ _ _
      cases (c == Value.type "enumerate") <;> (wp_walk using qi; exact ⟨_, rfl, h⟩)
    · wp_walk using qi
      exact ⟨_, rfl, h⟩
theorem call_enumT {prog : Program} {w : World} {A : Around} {E : Value → Shared → Prop} {s : Shared} {v : Value} {o : Obj} {Fh : Heap → Prop} {Q : Value → Shared → Prop} (B : Begins v o Fh) (h1 : Fh s.heap)
    (h : ∀ h', IsEnum h' (s.heap.objs.size + 1) s.heap.objs.size 0 .none → h'.get? s.heap.objs.size = some o → (∀ b u, s.heap.get? b = some u → h'.get? b = some u) → Q (.ref (s.heap.objs.size + 1)) { s with heap := h' }) :
    wpAny (model prog w) A (call (.type "enumerate") [v]) Q E s := by
  refine callType_new F.called_enumerate (by decide) (F.typeCall_enumerate_1 _) (F.newCall_enumerate_1 _) (fun obj => F.args_object_init_2 obj _) F.entry_enumerate_new (enum_newT B) ⟨h1, ?_⟩
  have z : (s.heap.push o).objs.size = s.heap.objs.size + 1 := Heap.size_push ..
  show _ ∧ _
  rw [z]
  have e : ((s.heap.push o).push { cls := .type "enumerate", data := .fields #[.none, .bool false, .ref s.heap.objs.size, rawInt 0, .none, .none] }).get? (s.heap.objs.size + 1) = some { cls := .type "enumerate", data := .fields #[.none, .bool false, .ref s.heap.objs.size, rawInt 0, .none, .none] } := by
    have q := Heap.get?_push_size (s.heap.push o) (o := { cls := .type "enumerate", data := .fields #[.none, .bool false, .ref s.heap.objs.size, rawInt 0, .none, .none] }) rfl
    rwa [z] at q
  exact ⟨⟨_, e, rfl⟩, h _ e (Heap.get?_push_of_some _ (Heap.get?_push_size _ B.free)) fun b u x => Heap.get?_push_of_some _ (Heap.get?_push_of_some _ x)⟩
def okE (K : PySem.W.Frag) (a : Addr) (xs : List V) (H : Hp) : Prop := SqT K H a xs
def yvE (xs : List V) (i : Nat) : List V := [.int (i : Int), xs.getD i .non]
theorem turn_enumT {P : Program} {w : World} {K : PySem.W.Frag} {elts : List Expr} {kk : Nat} {tpos : Pos} {N : Nat} {a : Addr} {xs : List V} (la : a < N) :
    Turn P w K (.Tuple elts kk tpos) (ItG xs.length (okE K a xs) (yvE xs)) [N + 1, N] (N + 1) (fun i h => i ≤ xs.length ∧ (∃ old, IsEnum h (N + 1) N i old) ∧ h.IsTupleIter N a i) := by
  refine turn_G (wr := [N + 1, N]) (by simp) (fun i h st q hq => ?_) (fun i h h' st k => ?_) (fun A i s Q E st h => ?_) (fun i h st => st.1) (fun q hq => hq) (fun i => by show 2 ≤ sizeLine; decide) (fun X hP hw hK hc pins s σ H I hok => ?_)
  · obtain ⟨_, ⟨old, he⟩, ⟨o, ho, _, d⟩⟩ := st
    have e' : q = N + 1 ∨ q = N := by simpa using hq
    rcases e' with z | z
    · rw [z]
      exact ⟨_, he, fun v q => nomatch q⟩
    · rw [z]
      exact ⟨o, ho, fun v q => by rw [d] at q; cases q⟩
  · obtain ⟨hl, ⟨old, he⟩, hi⟩ := st
    exact ⟨hl, ⟨old, k _ (by simp) _ he⟩, hi.at fun o q => k N (by simp) o q⟩
  · obtain ⟨_, ⟨old, he⟩, _⟩ := st
    exact wpAny_pyIter_enum he h
  · subst hP hw hK
    obtain ⟨ts, v1, p1, _⟩ := I.tuple hok
    have hd : X.A.handled = none := I.ok.hd hc
    have D1 := Draws.tuple (prog := X.prog) (w := X.w) (A := X.A.in1) hd N a (Nat.ne_of_lt la) ts.toArray
    have W := WalksT.enumerateD D1 (N + 1) (Nat.succ_ne_self N) (fun z => by
      rcases List.mem_cons.mp z with z | z
      · exact Nat.succ_ne_self N z
      · have := List.mem_singleton.mp z
        exact absurd (this ▸ la : N + 1 < N) (Nat.not_lt.mpr (Nat.le_succ N))) List.mem_cons_self
    have en : ts.toArray.size = xs.length := by rw [List.size_toArray, ← v1.length]
    rw [en] at W
    refine ⟨_, _, fun i h => i ≤ xs.length ∧ ((∃ old, IsEnum h (N + 1) N i old) ∧ h.IsTupleIter N a i ∧ h.IsTuple a ts.toArray), fun i T h => i + 1 ≤ xs.length ∧ _,
      ⟨W.sub, fun i h h' st k => ⟨st.1, W.frame i h h' st.2 k⟩, fun i s Q E hi st q => W.item i s Q E hi st.2 fun T vals h' tk a1 a2 a3 a4 a5 => q T vals h' tk a1 a2 a3 ⟨hi, a4⟩ a5,
        fun elts k pos i T s Q E m q => W.go elts k pos i T s Q E m.2 fun h' a1 a2 => q h' ⟨m.1, a1⟩ a2, fun i T h m => W.apart i T h m.2, fun s Q E st q => W.done s Q E st.2 q, fun i s Q E st q => W.self i s Q E st.2 q⟩,
      fun i st => ⟨st.1, st.2.1, st.2.2, p1⟩, fun i h ⟨hl, he, h1⟩ => ⟨hl, he, h1.1⟩, fun i vals hv => ?_⟩
    obtain ⟨t, x, e1, rfl⟩ := hv
    exact .cons ⟨_, rfl⟩ (.cons (vals_at v1 e1) .nil)
def iEnumT (K : PySem.W.Frag) (ta : TA) : TI := fun σ H R => ta σ H fun vs H1 => ∃ a xs, vs = [.ref a] ∧ SqT K H1 a xs ∧ R (ItG xs.length (okE K a xs) (yvE xs)) H1
theorem pi_enumT {X : Cx} {e : Expr} {ta : TA} {p pos tpos : Pos} {elts : List Expr} {kk : Nat} (hg : Gl X "enumerate") (hm : X.mg "enumerate" = none) (ha : PA X [e] ta) (hs : starEach [e] X.env = [(false, eval e X.env)] := by rfl) :
    PI X (.Tuple elts kk tpos) (.Call (.Name "enumerate" p) [e] [] pos) (iEnumT X.K ta) := by
  refine ⟨fun pins s σ H R I h => PyProof.Rows.Call_ (ld_blt I hg hm (show bootBuiltins "enumerate" = some (.type "enumerate") from rfl) (PyProof.Rows.callWith_type1 (thn (ha.run pos pins s σ H _ I h) fun us s1 ⟨vs, H1, I1, r1, q1⟩ => ?_) hs rfl))⟩
  obtain ⟨a, xs, ex, o1, q⟩ := q1
  subst ex
  cases r1 with
  | cons ra rr =>
  cases rr
  cases ra
  obtain ⟨ts, v1, p1, _⟩ := I1.tuple o1
  obtain ⟨b1, hb1, _⟩ := id p1
  refine call_enumT (begins_tuple a ts.toArray) p1 fun h' he hi hk => wpAny_pyIter_enum he ?_
  have I2 : Inv X pins σ H1 { s1 with heap := h' } := I1.kept (t' := s1.toks) hk
  refine ⟨s1.heap.objs.size + 1, [s1.heap.objs.size + 1, s1.heap.objs.size], _, _, H1, rfl, I2, turn_enumT (N := s1.heap.objs.size) (Heap.lt_size hb1), ⟨Nat.zero_le _, ⟨_, he⟩, ⟨_, hi, rfl, rfl⟩⟩, fun q hq => ?_, q⟩
  have e' : q = s1.heap.objs.size + 1 ∨ q = s1.heap.objs.size := by simpa using hq
  have hle : s1.heap.objs.size ≤ q := by
    rcases e' with z | z <;> (rw [z]; first | exact Nat.le_add_right _ _ | exact Nat.le_refl _)
  exact I1.fpOk hle (I1.hok.fresh hle)
/-! by data -/
def enumD (xs : List D) : List D := (List.range xs.length).map fun (i : Nat) => D.tup [.int (i : Int), xs.getD i .non]
def wiEnum (w : WA) : WI := fun ρ M R => w ρ M fun ds M1 => match ds with
  | [.tup xs] => R (enumD xs) AnyM M1
  | _ => False
theorem walks_e {K : PySem.W.Frag} {Z H : Hp} {M : Mp} {p : Addr} {vs : List V} {ds : List D} (h1 : SqT K (fz Z H M) p vs) (r1 : RepL K (fz Z H M) vs ds) : Walks3 K Z H M (ItG vs.length (okE K p vs) (yvE vs)) (enumD ds) AnyM := by
  intro Z2 H2 M2 S ex _
  have k : okE K p vs H2 := sqt_mono (ex.trans fz_sub) h1
  have en : (enumD ds).length = vs.length := by
    unfold enumD
    rw [List.length_map, List.length_range, r1.len]
  refine ⟨fun i d e => ?_, fun i hi => ⟨k, by rw [← en]; exact hi⟩⟩
  have li := (List.getElem?_eq_some_iff.mp e).1
  have li2 : i < ds.length := by rw [en, r1.len] at li; exact li
  have ed : d = D.tup [.int (i : Int), ds.getD i .non] := by
    unfold enumD at e
    rw [List.getElem?_map, List.getElem?_range li2] at e
    exact (Option.some.inj e).symm
  subst ed
  refine ⟨⟨k, by rw [← en]; exact li⟩, fun z H3 ⟨T, ez, hT, eH⟩ => ?_⟩
  subst ez
  subst eH
  obtain ⟨g, n⟩ := Go.laid (o := .tup (yvE vs i)) S hT
  exact ⟨g, .tup (.inl (.inl n)) (.cons (.int _) (.cons (((rep_getd r1 i li2).up ex).up g.ex) .nil))⟩
theorem di_enumT {X : Cx} {e : Expr} {tr : TA} {wr : WA} {p pos tpos : Pos} {elts : List Expr} {kk : Nat} (hm : X.mg "enumerate" = none) (ha : DA X [e] tr wr) (hg : Gl X "enumerate" := by rfl) (hs : starEach [e] X.env = [(false, eval e X.env)] := by rfl) :
    DI X (.Tuple elts kk tpos) (.Call (.Name "enumerate" p) [e] [] pos) (iEnumT X.K tr) (wiEnum wr) := by
  refine ⟨pi_enumT hg hm ha.pe hs, fun Z ρ M σ H R R' s hw q => ?_⟩
  refine ha.sm Z ρ M σ H _ _ s hw fun xs ds H1 M1 g1 r1 q1 => ?_
  split at q1
  · cases r1 with
    | cons r1 r2 =>
    cases r2
    cases r1 with
    | tup h1 l1 => exact ⟨_, _, rfl, sqt_mono fz_sub h1, q _ _ _ H1 M1 g1 (walks_e h1 l1) q1⟩
  · exact q1.elim
end L3
namespace L3
open PySem L2
/-! ### for y in zip(*xs), y one name -/
structure ZHalf (h : Heap) (z TI TO : Addr) (qs : List (Addr × Addr)) (i : Nat) (x : Value) (b : Bool) (old : List Value) : Prop where
  zip : IsZipB h z TI TO x b
  ti : h.get? TI = some { cls := .type "tuple", data := .seq (qs.map fun q => Value.ref q.1).toArray }
  out : h.get? TO = some { cls := .type "tuple", data := .seq old.toArray }
  len : old.length = qs.length
  iter : ∀ q ∈ qs, h.IsTupleIter q.1 q.2 i
theorem ZHalf.keep {h h' : Heap} {z TI TO : Addr} {qs : List (Addr × Addr)} {i : Nat} {x : Value} {b : Bool} {old : List Value} (S : ZHalf h z TI TO qs i x b old) (k : ∀ c ∈ z :: TI :: TO :: qs.map (·.1), ∀ o, h.get? c = some o → h'.get? c = some o) : ZHalf h' z TI TO qs i x b old :=
  ⟨k z (by simp) _ S.zip, k TI (by simp) _ S.ti, k TO (by simp) _ S.out, S.len, fun q hq => (S.iter q hq).at fun o e => k q.1 (by simp; exact .inr (.inr (.inr ⟨_, hq⟩))) o e⟩
/-! by data -/
end L3
namespace L3
open PySem L2
end L3
namespace L3
open PySem L2
/-! ### dicts that change: tokens -/
def valD (kd : List (Key × D)) (k : Key) : Option D := (kd.find? fun p => decide (p.1 = k)).map (·.2)
def putD (kd : List (Key × D)) (k : Key) (d : D) : List (Key × D) :=
  if (kd.any fun p => decide (p.1 = k)) = true then kd.map (fun p => if p.1 = k then (p.1, d) else p) else kd ++ [(k, d)]
def dropD (kd : List (Key × D)) (k : Key) : List (Key × D) := kd.filter fun p => decide (p.1 ≠ k)
section
variable {K : PySem.W.Frag} {Z H H' : Hp} {M : Mp}
theorem RepK.nil : RepK K H [] [] := ⟨rfl, .nil⟩
theorem RepK.cons {k : Key} {v : V} {d : D} {kv : List (Key × V)} {kd : List (Key × D)} (r : Rep K H v d) (q : RepK K H kv kd) : RepK K H ((k, v) :: kv) ((k, d) :: kd) := ⟨by rw [List.map_cons, List.map_cons, q.1], .cons r q.2⟩
theorem RepK.uncons {p : Key × V} {kv : List (Key × V)} {kd : List (Key × D)} (q : RepK K H (p :: kv) kd) : ∃ d kd', kd = (p.1, d) :: kd' ∧ Rep K H p.2 d ∧ RepK K H kv kd' := by
  obtain ⟨e, r⟩ := q
  cases kd with
  | nil => cases e
  | cons z kd' =>
    obtain ⟨k, d⟩ := z
    rw [List.map_cons, List.map_cons] at e
    injection e with e1 e2
    rw [List.map_cons, List.map_cons] at r
    cases r with
    | cons r1 r2 =>
      refine ⟨d, kd', ?_, r1, e2, r2⟩
      show (k, d) :: kd' = (p.1, d) :: kd'
      rw [e1]
theorem RepK.nil' {kd : List (Key × D)} (q : RepK K H [] kd) : kd = [] := by
  have e := q.1
  cases kd with
  | nil => rfl
  | cons z r => cases e
theorem RepK.len {kv : List (Key × V)} {kd : List (Key × D)} (q : RepK K H kv kd) : kv.length = kd.length := by
  have := congrArg List.length q.1
  rwa [List.length_map, List.length_map] at this
theorem RepK.val (k : Key) : ∀ {kv : List (Key × V)} {kd : List (Key × D)}, RepK K H kv kd → (valV kv k = none ∧ valD kd k = none) ∨ ∃ v d, valV kv k = some v ∧ valD kd k = some d ∧ Rep K H v d
  | [], kd, q => by
    rw [q.nil']
    exact .inl ⟨rfl, rfl⟩
  | p :: kv, kd, q => by
    obtain ⟨d, kd', rfl, r, q'⟩ := q.uncons
    by_cases h : p.1 = k
    · refine .inr ⟨p.2, d, ?_, ?_, r⟩
      · unfold valV
        rw [List.find?_cons_of_pos (by simpa using h)]
        rfl
      · unfold valD
        rw [List.find?_cons_of_pos (by simpa using h)]
        rfl
    · have e1 : valV (p :: kv) k = valV kv k := by
        unfold valV
        rw [List.find?_cons_of_neg (by simpa using h)]
      have e2 : valD ((p.1, d) :: kd') k = valD kd' k := by
        unfold valD
        rw [List.find?_cons_of_neg (by simpa using h)]
      rw [e1, e2]
      exact RepK.val k q'
theorem RepK.some {k : Key} {d : D} {kv : List (Key × V)} {kd : List (Key × D)} (q : RepK K H kv kd) (e : valD kd k = some d) : ∃ v, valV kv k = some v ∧ Rep K H v d := by
  rcases q.val k with ⟨_, h⟩ | ⟨v, d', h1, h2, r⟩
  · rw [e] at h
    cases h
  · rw [e] at h2
    cases h2
    exact ⟨v, h1, r⟩
theorem RepK.none {k : Key} {kv : List (Key × V)} {kd : List (Key × D)} (q : RepK K H kv kd) (e : valD kd k = none) : valV kv k = none := by
  rcases q.val k with ⟨h, _⟩ | ⟨v, d', h1, h2, r⟩
  · exact h
  · rw [e] at h2
    cases h2
theorem RepK.isSome {k : Key} {kv : List (Key × V)} {kd : List (Key × D)} (q : RepK K H kv kd) : (valV kv k).isSome = (valD kd k).isSome := by
  rcases q.val k with ⟨h, h2⟩ | ⟨v, d', h1, h2, r⟩
  · rw [h, h2]
    rfl
  · rw [h1, h2]
    rfl
theorem RepK.any (k : Key) : ∀ {kv : List (Key × V)} {kd : List (Key × D)}, RepK K H kv kd → (kv.any fun p => decide (p.1 = k)) = kd.any fun p => decide (p.1 = k)
  | [], kd, q => by
    rw [q.nil']
    rfl
  | p :: kv, kd, q => by
    obtain ⟨d, kd', rfl, r, q'⟩ := q.uncons
    rw [List.any_cons, List.any_cons, RepK.any k q']
theorem RepK.snoc {k : Key} {v : V} {d : D} (r : Rep K H v d) : ∀ {kv : List (Key × V)} {kd : List (Key × D)}, RepK K H kv kd → RepK K H (kv ++ [(k, v)]) (kd ++ [(k, d)])
  | [], kd, q => by
    rw [q.nil']
    exact RepK.nil.cons r
  | p :: kv, kd, q => by
    obtain ⟨d', kd', rfl, r', q'⟩ := q.uncons
    exact (RepK.snoc r q').cons r'
theorem RepK.repl {k : Key} {v : V} {d : D} (r : Rep K H v d) : ∀ {kv : List (Key × V)} {kd : List (Key × D)}, RepK K H kv kd → RepK K H (kv.map fun p => if p.1 = k then (p.1, v) else p) (kd.map fun p => if p.1 = k then (p.1, d) else p)
  | [], kd, q => by
    rw [q.nil']
    exact .nil
  | p :: kv, kd, q => by
    obtain ⟨d', kd', rfl, r', q'⟩ := q.uncons
    rw [List.map_cons, List.map_cons]
    by_cases h : p.1 = k
    · rw [if_pos h, if_pos h]
      exact (RepK.repl r q').cons r
    · rw [if_neg h, if_neg h]
      exact (RepK.repl r q').cons r'
theorem RepK.put {k : Key} {v : V} {d : D} {kv : List (Key × V)} {kd : List (Key × D)} (r : Rep K H v d) (q : RepK K H kv kd) : RepK K H (putK kv k v) (putD kd k d) := by
  unfold putK putD
  rw [q.any k]
  split
  · exact RepK.repl r q
  · exact RepK.snoc r q
theorem RepK.drop (k : Key) : ∀ {kv : List (Key × V)} {kd : List (Key × D)}, RepK K H kv kd → RepK K H (dropK kv k) (dropD kd k)
  | [], kd, q => by
    rw [q.nil']
    exact .nil
  | p :: kv, kd, q => by
    obtain ⟨d', kd', rfl, r', q'⟩ := q.uncons
    unfold dropK dropD
    by_cases h : p.1 = k
    · rw [List.filter_cons_of_neg (by simpa using h), List.filter_cons_of_neg (by simpa using h)]
      exact RepK.drop k q'
    · rw [List.filter_cons_of_pos (by simpa using h), List.filter_cons_of_pos (by simpa using h)]
      exact (RepK.drop k q').cons r'
end
section
variable {X : Cx} {E : WX3} {e a b o i value : Expr} {es : List Expr} {t ta tb te to ti tv td ty : TE} {w wa wb we wo wi wv wd wy : WE} {pos pos' tpos cpos apos : Pos} {k : Nat}
/-! {} -/
def wDct0 : WE := fun _ M Q => Q (.dct [] []) M
theorem de_dct0 : DE X (.Dict [] [] pos) tDNewK wDct0 := ⟨pe_dnewK, fun Z ρ M σ H Q Q' r h q p hp => by
  obtain ⟨g, e⟩ := Go.laid (o := .dK []) r.sat hp
  exact q _ _ _ _ g (.dct (ks := []) (vs := []) (.inl e) rfl .nil) h⟩
/-! displays -/
end
end L3
namespace L3
open PySem L2
end L3
namespace L3
open PySem L2
end L3
namespace L3
open PySem L2
theorem Sat.shown {K : PySem.W.Frag} {Z H : Hp} {M : Mp} {p : Addr} {o : HO} {c : Cell} (S : Sat K (upd Z p o) H M) (hz : Z p = none) (ok : Same (fz (upd Z p o) H M) (fz Z H (setM M p c)) → CellOk K Z H (setM M p c) p c) : Sat K Z H (setM M p c) ∧ Same (fz (upd Z p o) H M) (fz Z H (setM M p c)) := by
  have ex : Same (fz (upd Z p o) H M) (fz Z H (setM M p c)) := fun b u e => by
    obtain ⟨e1, e2, e3⟩ := fz_is e
    have hb : b ≠ p := fun z => by
      subst z
      rw [upd_same] at e2
      cases e2
    rw [upd_ne hb] at e2
    exact fz_to (by rw [setM_ne hb]; exact e1) e2 e3
  have hm : M p = none := (S.zed p o upd_same).2
  refine ⟨⟨fun a c' h => ?_, fun a u h => ?_⟩, ex⟩
  · by_cases ha : a = p
    · subst ha
      rw [setM_same] at h
      cases h
      exact ok ex
    · rw [setM_ne ha] at h
      refine (S.cell a c' h).same ex (fun _ q => q) fun b e => ⟨?_, fun _ q => q⟩
      have hb : b ≠ p := fun z => by
        subst z
        rw [hm] at e
        cases e
      rw [setM_ne hb]
      exact e
  · have ha : a ≠ p := fun z => by
      subst z
      rw [hz] at h
      cases h
    obtain ⟨e1, e2⟩ := S.zed a u (by rw [upd_ne ha]; exact h)
    exact ⟨e1, by rw [setM_ne ha]; exact e2⟩
/-- nothing that stood is changed -/
theorem Go.kept {K : PySem.W.Frag} {Z H H' : Hp} {M : Mp} (S : Sat K Z H M) (k : ∀ b o, H b = some o → H' b = some o) : Go K Z H M H' M := by
  have ex : Same (fz Z H M) (fz Z H' M) := fun b u e => fz_to (fz_is e).1 (fz_is e).2.1 (k _ _ (fz_is e).2.2)
  exact ⟨⟨fun a c h => (S.cell a c h).same ex (fun o q => k _ _ q) fun b e => ⟨e, fun o q => k _ _ q⟩, fun a u h => ⟨k _ _ (S.zed a u h).1, (S.zed a u h).2⟩⟩, ex⟩
end L3
namespace L3
open PySem L2
end L3
namespace L3
open PySem L2
/-! ### isinstance(error, (A, B)) -/
/-! ### x in xs, any data -/
def rInA (K : PySem.W.Frag) (neg : Bool) : R2 := fun x y H Q => ∃ d ds, Dp K H x d ∧ (Dp K H y (.list ds) ∨ Dp K H y (.tuple ds)) ∧ SeqAt.shaped d = true ∧ SeqAt.shaped (.list ds) = true ∧ Q (.bl (if neg then !(ds.any fun z => PyData.eqv z d) else ds.any fun z => PyData.eqv z d)) H
theorem op_inA {X : Cx} {k : Nat} (hr : Room k X.A) : OpR X (compareOp .In) (rInA X.K false) := by
  intro pins s σ H x y v u Q I rx ry h
  obtain ⟨d, ds, hd, he, sd, se, q⟩ := h
  have hu : X.A.units + 65 < cLine := by
    have := hr.un
    omega
  obtain ⟨as, r1⟩ := Dp.reads I d x v hd rx
  rcases he with he | he
  · obtain ⟨bs, r2⟩ := Dp.reads I (.list ds) y u he ry
    exact SeqAt.in_list_reads r2 r1 (SeqAt.canLay_of_shaped se) (SeqAt.canLay_of_shaped sd) (PyProof.Rows.room_in_shaped sd hu) ⟨.bl _, H, I, rfl, q⟩
  · obtain ⟨bs, r2⟩ := Dp.reads I (.tuple ds) y u he ry
    exact SeqAt.in_tuple_reads r2 r1 (SeqAt.canLay_of_shaped se) (SeqAt.canLay_of_shaped sd) (PyProof.Rows.room_in_shaped sd hu) ⟨.bl _, H, I, rfl, q⟩
def inAB (neg : Bool) (d : D) (es : List D) : Bool := if neg then !(es.any fun x => eqD x d) else es.any fun x => eqD x d
def fInA (neg : Bool) : F2 := fun d e M Q => ∃ es n, seqD M e = some es ∧ n ≤ 60 ∧ fit n d ∧ (∀ x ∈ es, fit n x) ∧ Q (.bl (inAB neg d es)) M
theorem any_py (d : D) : ∀ es : List D, ((pyL es).any fun z => PyData.eqv z d.py) = es.any fun x => eqD x d
  | [] => rfl
  | e :: es => by
    rw [pyL, List.any_cons, List.any_cons, any_py d es]
    rfl
theorem sim_inA {K : PySem.W.Frag} {neg : Bool} : SimR K (rInA K neg) (fInA neg) := by
  intro Z x y d e H M Q Q' S r1 r2 f q
  obtain ⟨es, n, hs, hn, fd, fe, z⟩ := f
  obtain ⟨a, vs, rfl, hv, rl⟩ := seq_of S r2 hs
  have dd := Rep.dp n d x fd (r1.up fz_sub)
  have de := RepL.dp n es vs fe (rl.up fz_sub)
  have sh : SeqAt.shaped (.list (pyL es)) = true := fit_shaped (n := n + 1) (d := .lst es) (by simpa only [fit] using fe) (by omega)
  refine ⟨d.py, pyL es, dd, ?_, fit_shaped fd (by omega), sh, ?_⟩
  · rcases hv with hv | hv
    · exact .inl (.lst hv de)
    · exact .inr (.tup hv de)
  · rw [any_py]
    exact q _ _ H M (Go.refl S) (.bl _) z
/-! ### a sign in a text -/
/-! ### str(n) -/
/-! ### methods of texts -/
section
variable {X : Cx} {e o : Expr} {te to : TE} {we wo : WE} {apos pos : Pos} {id : String} {name : Str} {r : V → List V → Hp → VK → Prop}
def wS0 (C : Str → Prop) (g : Str → D) (wo : WE) : WE := fun ρ M Q => wo ρ M fun d M1 => match d with
  | .str a => C a ∧ Q (g a) M1
  | _ => False
theorem de_s0 {C : Str → Prop} {g : Str → D} {g' : Str → V} (slot : Slot "str" name id) (ty : typeOf (.builtin id) = pure (.type "method_descriptor")) (rule : MtR X id r) (hr : ∀ a H Q, C a → Q (g' a) H → r (.str a) [] H Q) (hg : ∀ a H, Rep X.K H (g' a) (g a)) (ho : DE X o to wo)
    (hbase : attributeBase o name X.env (eval o X.env) = eval o X.env := by rfl) (hline : (apos.endLine == pos.line) = true := by rfl) : DE X (.Call (.Attribute o name apos) [] [] pos) (tM0 r to) (wS0 C g wo) :=
  ⟨pe_m0 slot ty rule ho.pe hbase hline, fun Z ρ M σ H Q Q' s h q => ho.sm _ _ _ _ _ _ _ s h fun x d H1 M1 g1 r1 h1 => by
    cases d with
    | str a =>
      cases r1
      exact ⟨⟨a, rfl⟩, hr a H1 Q' h1.1 (q _ _ _ _ g1 (hg a _) h1.2)⟩
    | _ => exact h1.elim⟩
abbrev wUpper (wo : WE) : WE := wS0 (fun a => a.length ≤ 5592405) (fun a => .str (Txt.upper a)) wo
end
/-! ### [..] * k -/
end L3
namespace L3
section
open PySem PySem.SeqAt PySem.MeetsSeq PySem.MeetsSeq2 PySem.MeetsSeq3
open PySem.AutoSeq1 (wpAny_loadPart')
/-! ### a dict and a value of another kind -/
/-- an exact dict -/
def IsDct (h : Heap) (l : Addr) : Prop := ∃ es ep dd sl, h.get? l = some { cls := .type "dict", dict := dd, data := .dict es ep, slots := sl }
variable {A : Around} {s : Shared}
end
end L3
namespace L3
open PySem L2
/-! ### equality of data with dicts within -/
def kindD : D → Option Nat
  | .non => some 0
  | .bl _ => some 1
  | .int _ => some 1
  | .str _ => some 2
  | .tup _ => some 3
  | .lst _ => some 4
  | .dct _ _ => some 5
  | _ => none
/-- `EqG n d e b`: d == e is b, by n steps inwards -/
inductive EqG : Nat → D → D → Bool → Prop
  | same {n : Nat} {d e : D} : L3.fit n d → L3.fit n e → EqG n d e (eqD d e)
  | tup {n : Nat} {ds es : List D} (f : Nat → Bool) : (∀ (j : Nat) (d e : D), ds[j]? = some d → es[j]? = some e → EqG n d e (f j)) → EqG (n + 1) (.tup ds) (.tup es) ((List.range (min ds.length es.length)).all f && ds.length == es.length)
  | lst {n : Nat} {ds es : List D} (f : Nat → Bool) : ds.length = es.length → (∀ (j : Nat) (d e : D), ds[j]? = some d → es[j]? = some e → EqG n d e (f j)) → EqG (n + 1) (.lst ds) (.lst es) ((List.range ds.length).all f)
  | lstN {n : Nat} {ds es : List D} : ds.length ≠ es.length → EqG n (.lst ds) (.lst es) false
  | kin {n : Nat} {d e : D} {i j : Nat} : kindD d = some i → kindD e = some j → i ≠ j → EqG n d e false
theorem EqG.up {n m : Nat} {d e : D} {b : Bool} (h : EqG n d e b) (l : n ≤ m) (hf : ∀ (k : Nat) (d : D), L3.fit k d → L3.fit (k + 1) d) : EqG m d e b := by
  induction h generalizing m with
  | @same n d e f1 f2 =>
    have up : ∀ (j : Nat) {d : D}, L3.fit n d → L3.fit (n + j) d := fun j => by
      induction j with
      | zero => exact fun h => h
      | succ j ih => exact fun h => hf _ _ (ih h)
    obtain ⟨j, rfl⟩ := Nat.exists_eq_add_of_le l
    exact .same (up j f1) (up j f2)
  | @tup n ds es f _ ih =>
    obtain ⟨j, rfl⟩ : ∃ j, m = j + 1 := ⟨m - 1, by omega⟩
    exact .tup f fun i d e h1 h2 => ih i d e h1 h2 (by omega : n ≤ j)
  | @lst n ds es f hl _ ih =>
    obtain ⟨j, rfl⟩ : ∃ j, m = j + 1 := ⟨m - 1, by omega⟩
    exact .lst f hl fun i d e h1 h2 => ih i d e h1 h2 (by omega : n ≤ j)
  | lstN h => exact .lstN h
  | kin h1 h2 h3 => exact .kin h1 h2 h3
section
variable {X : Cx} {pins : List (Addr × Obj)} {σ : L2.St} {H : Hp} {s : Shared}
/-- what a value of a kind looks like -/
inductive Looks (h : Heap) : Nat → Value → Prop
  | non : Looks h 0 .none
  | bl (b : Bool) : Looks h 1 (.bool b)
  | int (i : Int) (t : Tok) : Looks h 1 (.int i t)
  | str (x : Str) (t : Tok) : Looks h 2 (.str x t)
  | tup {a : Addr} {its : Array Value} : h.IsTuple a its → Looks h 3 (.ref a)
  | lst {a : Addr} {its : Array Value} : h.IsList a its → Looks h 4 (.ref a)
  | dct {a : Addr} : IsDct h a → Looks h 5 (.ref a)
end
/-! ### the rules -/
/-! ### x in xs -/
end L3
namespace L3
open PySem L2
/-! ### instances of own classes: tokens of the store, by their class's name -/
theorem one_cls {K : PySem.W.Frag} {y : Str} {C C' : Addr} (h : ClsAt K y C) (h' : ClsAt K y C') : C = C' := by
  unfold ClsAt at h h'
  rw [h] at h'
  cases h'
  rfl
/-- how a method's call with keywords binds; the receiver is the first -/
def KwM (x q : Str) (st : Stmt) (ps : List Str) (n : Nat) (ks : List Str) (idx : List Nat) : Prop := ∀ (kV doc pm : Value) (an : Option Addr) (cdv ct : Value) (us ws : List Value), us.length = n → ws.length = ks.length →
  bindArgs (PySem.W.fnOf x q (defArgs st) (defBody st) (defScope st) .none kV doc pm an cdv ct) ⟨us, ks.zip ws⟩ = pure (ps.zip (permU idx us ws))
theorem kbm_of {K : PySem.W.Frag} {x q : Str} {st : Stmt} {ps : List Str} {f : Addr} {fd : FuncData} {n : Nat} {ks : List Str} {idx : List Nat} (Fn : Fun K x q st f fd) (h : KwM x q st ps n ks idx) : KB K fd ps n ks idx := by
  obtain ⟨oc, od, kV, doc, pm, an, cdv, ct, osl, rfl, lk, hcd⟩ := Fn.ex
  exact fun s us ws _ h1 h2 => .of_eq (h kV doc pm an cdv ct us ws h1 h2)
/-! fields of the store -/
theorem repf_some {K : PySem.W.Frag} {H : Hp} {m : Str} {d : D} : ∀ {fv : List (Str × V)} {fs : List (Str × D)}, RepF K H fv fs → fs.lookup m = some d → ∃ v, fv.lookup m = some v ∧ Rep K H v d
  | [], [], _, e => by cases e
  | [], _ :: _, ⟨h, _⟩, _ => by cases h
  | _ :: _, [], ⟨h, _⟩, _ => by cases h
  | (a, v) :: fv, (b, d0) :: fs, ⟨h, r⟩, e => by
    have h : a :: fv.map (·.1) = b :: fs.map (·.1) := h
    injection h with h1 h2
    subst h1
    rw [List.lookup_cons] at e
    rw [List.lookup_cons]
    cases r with
    | cons r t =>
      cases z : m == a with
      | true =>
        rw [z] at e
        cases e
        exact ⟨v, rfl, r⟩
      | false =>
        rw [z] at e
        exact repf_some (fs := fs) ⟨h2, t⟩ e
end L3
namespace L3
open PySem L2
end L3
namespace L3
open PySem L2
/-! ### what many laws' texts share -/
/-- what stood stands -/
def Up (M M' : Mp) : Prop := ∀ b c, M b = some c → M' b = some c
theorem Up.refl (M : Mp) : Up M M := fun _ _ h => h
theorem Up.trans {M M' M'' : Mp} (a : Up M M') (b : Up M' M'') : Up M M'' := fun x c h => b x c (a x c h)
theorem Up.set {M : Mp} {p : Addr} {c : Cell} (h : M p = none) : Up M (setM M p c) := fun b d e => by
  by_cases hb : b = p
  · subst hb
    rw [h] at e
    cases e
  · rw [setM_ne hb]
    exact e
/-- the integers at one place -/
def col (vs : List (List Int)) (i : Nat) : List Int := vs.map fun u => u.getD i 0
/-! values of any kind -/
def tyOk (M : Mp) (d : D) : Prop := (tyD M d).isSome = true
def intB : D → Bool
  | .int _ => true
  | _ => false
def okD (M : Mp) : Nat → D → Prop
  | 0, d => tyOk M d
  | n + 1, d => tyOk M d ∧ ∀ es, d = .tup es → es.length ≤ 1000 ∧ ∀ e ∈ es, okD M n e
def tupB (d : D) (n : Int) : Bool := match d with
  | .tup es => decide ((es.length : Int) = n)
  | _ => false
def vecB (d : D) (n : Int) : Bool := match d with
  | .tup es => decide ((es.length : Int) = n) && es.all intB
  | _ => false
theorem cut_ints (ns : List Int) (lo hi : Option Int) : ∃ ms : List Int, cutD (ns.map .int) lo hi = ms.map .int ∧ ms.length ≤ ns.length := by
  unfold cutD
  refine ⟨(ns.drop (HT.sIx (ns.map D.int).length 0 lo)).take (HT.sIx (ns.map D.int).length (ns.map D.int).length hi - HT.sIx (ns.map D.int).length 0 lo), ?_, ?_⟩
  · rw [← List.map_drop, ← List.map_take]
  · rw [List.length_take, List.length_drop]
    omega
theorem ints_of {R : Int → Prop} : ∀ {ys : List D}, (∀ y ∈ ys, ∃ b : Int, y = .int b ∧ R b) → ∃ ns : List Int, ys = ns.map .int ∧ ∀ b ∈ ns, R b
  | [], _ => ⟨[], rfl, fun b h => by cases h⟩
  | y :: ys, h => by
    obtain ⟨b, rfl, hb⟩ := h y List.mem_cons_self
    obtain ⟨ns, rfl, hn⟩ := ints_of (fun z hz => h z (List.mem_cons_of_mem _ hz))
    refine ⟨b :: ns, rfl, fun c hc => ?_⟩
    rcases List.mem_cons.mp hc with rfl | hc
    · exact hb
    · exact hn c hc
theorem repr_bl {M : Mp} {b : Bool} {Q : KD} : fRepr [.bl b] M Q ↔ Q (.str (shown (.bl b))) M :=
  ⟨fun h => h.2.2, fun q => ⟨⟨1, by decide, True.intro⟩, by simp [res, cost], q⟩⟩
theorem set_set {M : Mp} {p : Addr} {c d : Cell} : setM (setM M p c) p d = setM M p d := by
  funext b
  unfold setM
  split <;> rfl
theorem all_bls {M : Mp} {bs : List Bool} {Q : KD} (g : List Bool → Bool) (q : Q (.bl (g bs)) M) : fBls g [.lst (bs.map .bl)] M Q := ⟨bs, ⟨0, .inr rfl⟩, rfl, q⟩
theorem isi_i {M : Mp} {d : D} {T : String} {Q : KD} (h : tyOk M d) (hT : ∀ t, (subT t T).isSome = true) (q : ∀ t b, tyD M d = some t → subT t T = some b → Q (.bl b) M) : fIsi [d, .ty T] M Q := by
  obtain ⟨t, e⟩ := Option.isSome_iff_exists.mp h
  obtain ⟨b, e2⟩ := Option.isSome_iff_exists.mp (hT t)
  exact ⟨t, b, e, e2, q t b e e2⟩
theorem tok_ty {M : Mp} {a : Addr} {t : String} (h : tyD M (.tok a) = some t) : t = "list" ∨ t = "dict" := by
  have h' : (match M a with | some (.lst _) => some "list" | some (.dic _ _) => some "dict" | _ => none) = some t := h
  split at h'
  · cases h'
    exact .inl rfl
  · cases h'
    exact .inr rfl
  · cases h'
theorem isi_int {M : Mp} {d : D} {Q : KD} (h : tyOk M d) (q : Q (.bl (match d with | .int _ => true | .bl _ => true | _ => false)) M) : fIsi [d, .ty "int"] M Q :=
  isi_i h (fun _ => rfl) fun t b e e2 => by
    cases d with
    | tok a => rcases tok_ty e with rfl | rfl <;> (cases e2; exact q)
    | ty _ => cases e
    | exc _ _ _ _ _ => cases e
    | tpl _ => cases e
    | _ => cases e; cases e2; exact q
theorem isi_bool {M : Mp} {d : D} {Q : KD} (h : tyOk M d) (q : Q (.bl (match d with | .bl _ => true | _ => false)) M) : fIsi [d, .ty "bool"] M Q :=
  isi_i h (fun _ => rfl) fun t b e e2 => by
    cases d with
    | tok a => rcases tok_ty e with rfl | rfl <;> (cases e2; exact q)
    | ty _ => cases e
    | exc _ _ _ _ _ => cases e
    | tpl _ => cases e
    | _ => cases e; cases e2; exact q
theorem isi_tup {M : Mp} {d : D} {Q : KD} (h : tyOk M d) (q : Q (.bl (match d with | .tup _ => true | _ => false)) M) : fIsi [d, .ty "tuple"] M Q :=
  isi_i h (fun _ => rfl) fun t b e e2 => by
    cases d with
    | tok a => rcases tok_ty e with rfl | rfl <;> (cases e2; exact q)
    | ty _ => cases e
    | exc _ _ _ _ _ => cases e
    | tpl _ => cases e
    | _ => cases e; cases e2; exact q
theorem isi_str {M : Mp} {d : D} {Q : KD} (h : tyOk M d) (q : Q (.bl (match d with | .str _ => true | _ => false)) M) : fIsi [d, .ty "str"] M Q :=
  isi_i h (fun _ => rfl) fun t b e e2 => by
    cases d with
    | tok a => rcases tok_ty e with rfl | rfl <;> (cases e2; exact q)
    | ty _ => cases e
    | exc _ _ _ _ _ => cases e
    | tpl _ => cases e
    | _ => cases e; cases e2; exact q
theorem okD.ty {M : Mp} {d : D} : ∀ {n : Nat}, okD M n d → tyOk M d
  | 0, h => h
  | _ + 1, h => h.1
theorem okD.of {M : Mp} {n : Nat} {es : List D} (h : okD M (n + 1) (.tup es)) : es.length ≤ 1000 ∧ ∀ e ∈ es, okD M n e := h.2 es rfl
theorem len_tup {M : Mp} {es : List D} {Q : KD} : fLen [.tup es] M Q ↔ Q (.int (es.length : Int)) M := by
  constructor
  · rintro ⟨es', h, q⟩
    cases h
    exact q
  · exact fun q => ⟨es, rfl, q⟩
theorem all_lc {we : WE} {ρ : En} {M : Mp} {Q : KD} {j : Nat} {es : List D} (f : D → Bool) (hl : es.length ≤ 1000) (hs : ∀ e ∈ es, ∀ K : KD, K (.bl (f e)) M → we (ρ.set j (some e)) M K) (q : Q (.lst ((es.map f).map .bl)) M) : wLcL (wgName j) wYes we AnyM ρ es [] M Q := by
  refine lc_pure (fun e => .bl (f e)) True.intro es [] (by simp only [List.length_nil]; omega) (fun e he K hK => hs e he K hK) ?_
  rw [List.nil_append]
  rw [List.map_map] at q
  exact q
theorem cut_tail {x : D} {xs : List D} : cutD (x :: xs) (some 1) none = xs := by
  unfold cutD
  have e : HT.sIx (x :: xs).length 0 (some 1) = 1 := by
    have z := HT.sIx_nat (x :: xs).length 0 1
    rw [List.length_cons] at z ⊢
    rw [Nat.min_eq_left (by omega)] at z
    exact z
  rw [e, HT.sIx_none, List.drop_one, List.tail_cons, List.length_cons]
  exact List.take_of_length_le (by omega)
theorem ints_cost : ∀ v : List Int, costL (v.map D.int) = 212 * v.length
  | [] => rfl
  | a :: v => by
    show 210 + 2 + costL (v.map D.int) = _
    rw [ints_cost v, List.length_cons]
    omega
theorem vec_shw {n p : Nat} {B : Int} {v : List Int} (h : vk p B v) (hB : B ≤ 1000000) : shw (n + 1) (vec v) := fun d hd => by
  obtain ⟨a, ha, rfl⟩ := List.mem_map.mp hd
  have := h.2 a ha
  have e : ∀ m, shw m (.int a) ↔ a.natAbs < 2 ^ 200 := fun m => by cases m <;> exact Iff.rfl
  rw [e]
  exact Nat.lt_of_lt_of_le (by omega : a.natAbs < 2 ^ 30) (by decide)
theorem vecs_shw {p : Nat} {B : Int} {vs : List (List Int)} (h : ∀ v ∈ vs, vk p B v) (hB : B ≤ 1000000) : shw 2 (.tup (vs.map vec)) := fun d hd => by
  obtain ⟨v, hv, rfl⟩ := List.mem_map.mp hd
  exact vec_shw (h v hv) hB
theorem vec_cost {p : Nat} {B : Int} {v : List Int} (h : vk p B v) (hp : p ≤ 8) : cost (vec v) ≤ 1700 := by
  show costL (v.map D.int) + 4 ≤ _
  rw [ints_cost, h.1]
  omega
theorem vecs_cost {p : Nat} {B : Int} (hp : p ≤ 8) : ∀ {vs : List (List Int)}, (∀ v ∈ vs, vk p B v) → costL (vs.map vec) ≤ 1702 * vs.length
  | [], _ => Nat.le_refl _
  | v :: vs, h => by
    have h1 := vec_cost (h v List.mem_cons_self) hp
    have h2 := vecs_cost hp (vs := vs) fun u hu => h u (List.mem_cons_of_mem _ hu)
    show cost (vec v) + 2 + costL (vs.map vec) ≤ _
    rw [List.length_cons]
    omega
theorem rp {M : Mp} {p : Nat} {B : Int} {vs : List (List Int)} {Q : KD} (hp : p ≤ 8) (hB : B ≤ 1000000) (h : ∀ v ∈ vs, vk p B v) (hl : vs.length ≤ 1000) (q : Q (.str (shown (.tup (vs.map vec)))) M) : fRepr [.tup (vs.map vec)] M Q := by
  refine repr_of (n := 2) (by decide) (vecs_shw h hB) ?_ q
  show costL (vs.map vec) + 4 ≤ _
  have := vecs_cost hp h
  omega
end L3
namespace L3
open PySem L2
/-! ### values of any shape that are no tokens: whole numbers up to B, texts up to 40 signs, tuples and lists up to L long, the empty dict -/
def val (B L : Nat) : Nat → D → Prop
  | _, .non => True
  | _, .bl _ => True
  | _, .int i => i.natAbs ≤ B
  | _, .str x => PySem.PyData.strOk x = true ∧ x.length ≤ 40
  | _, .ty _ => False
  | _, .tok _ => False
  | _, .exc _ _ _ _ _ => False
  | _, .tpl _ => False
  | _, .dct ks ds => ks = [] ∧ ds = []
  | 0, .tup _ => False
  | 0, .lst _ => False
  | n + 1, .tup ds => ds.length ≤ L ∧ ∀ d ∈ ds, val B L n d
  | n + 1, .lst ds => ds.length ≤ L ∧ ∀ d ∈ ds, val B L n d
theorem costL_le {c : Nat} : ∀ {ds : List D}, (∀ d ∈ ds, cost d ≤ c) → costL ds ≤ ds.length * (c + 2)
  | [], _ => Nat.zero_le _
  | d :: ds, h => by
    have h1 := h d List.mem_cons_self
    have h2 := costL_le (ds := ds) fun x hx => h x (List.mem_cons_of_mem _ hx)
    rw [costL, List.length_cons, Nat.succ_mul]
    omega
/-! the text of a whole number -/
/-! ### regions, places, cuts -/
end L3
namespace L3
open PySem L2
/-! ### items, sieves, pairs, deeds, states -/
structure Itm where
  key : Int
  vec : List Int
  labs : List (Str × Int)
/-! pairs of a distance and a key -/
/-! deeds -/
inductive Dd where
  | take (k : Int) | put (i : Itm)
def Dd.key : Dd → Int
  | .take k => k
  | .put i => i.key
/-! a dict of items by their keys -/
/-! the pairs of the items that pass -/
end L3
namespace L3
open PySem L2
/-! ### comparisons of data -/
/-! ### o.f += e -/
section
variable {X : Cx} {W E3 : WX3} {e o value : Expr} {es : List Expr} {kws : List Keyword} {te to tv : TE} {we wo wv : WE} {tr tk : TA} {wr wk : WA} {pos pos' apos p tpos : Pos} {k : Nat} {x m q f g : Str} {st : Stmt} {ps ks : List Str} {F : Fs} {L : List Str} {n : Nat} {idx : List Nat}
variable {C fa : Addr} {fd : FuncData} {sp : Sp} {E : L2.St → XK}
/-! ### C(..) where keyword-only parameters with whole numbers as defaults lack -/
def kwI (is : List (Str × Int)) : List (Str × V) := is.map fun p => (p.1, .int p.2)
structure HasCD (P : Program) (w : World) (K : PySem.W.Frag) (mg : Str → Option Value) (base : Heap) (k : Nat) (x q : Str) (st : Stmt) (ps : List Str) (F : Fs) (is : List (Str × Int)) : Prop where
  ex : ∃ (C f : Addr) (fd : FuncData), ClsAt K x C ∧ mg x = some (.ref C) ∧ Mk K C f ∧ FnG P w K mg base k f fd ps (lift K F) ∧ FunD K "__init__" q (defArgs st) (defBody st) (defScope st) [] (kwI is) f fd
theorem HasCD.fn {P : Program} {w : World} {K : PySem.W.Frag} {q : Str} {st : Stmt} {C f : Addr} {fd : FuncData} {is : List (Str × V)} (F : FunD K "__init__" q (defArgs st) (defBody st) (defScope st) [] is f fd) : Fun K "__init__" q st f fd := by
  obtain ⟨oc, od, dV, kV, doc, pm, an, cdv, ct, osl, rfl, lk, hcd, hD, hK⟩ := F.ex
  rcases hD with ⟨_, rfl⟩ | ⟨e, _⟩
  · exact ⟨⟨oc, od, kV, doc, pm, an, cdv, ct, osl, rfl, lk, hcd⟩, F.kp⟩
  · exact absurd rfl e
end
end L3
namespace L3
open PySem L2
/-! ### standing questions: what is kept of all pairs -/
end L3
namespace L3
open PySem L2
end L3
namespace L3
open PySem PySem.Spec PyProof.Rows L2
/-! ### max of a list or a tuple by a key that gives a new tuple of whole numbers -/
section
variable {prog : Program} {w : World} {A : Around} {E : Value → Shared → Prop} {s : Shared}
def keptK (s s' : Shared) : Prop := ∃ g tk, s' = { s with heap := g, toks := tk } ∧ ∀ b o, s.heap.get? b = some o → g.get? b = some o
theorem keptK.refl : keptK s s := ⟨s.heap, s.toks, rfl, fun _ _ e => e⟩
end
/-! ### the key (x[0], -x[1]) -/
end L3
namespace L3
open PySem PySem.Spec PyProof.Rows L2
end L3
namespace L3
open PySem PySem.Spec PyProof.Rows L2
/-! ### a lambda made: its code object is new, or the table tells it -/
/-! ### max(e, key=lambda x: (x[0], -x[1])) of pairs of whole numbers -/
/-! ### a def whose code object's table is known -/
end L3
namespace L3
open PySem L2
/-! ### the law's own call, where defs of it make code objects -/
end L3
namespace L3
open PySem L2
end L3
namespace L3
open PySem PySem.Spec PyProof.Rows L2
/-! ### sets of whole numbers and texts that may be walked -/
section
variable {P : Program} {w : World} {A : Around} {E : Value → Shared → Prop} {s : Shared} {a : Addr}
def mkOf (e : Int × Value) : Key := match e.2 with | .int k _ => .inl k | .str x _ => .inr x | _ => .inl 0
def ItemM (w : World) (e : Int × Value) : Prop := keyIs (mkOf e) e.2 = true ∧ e.1 = keyH w (mkOf e)
/-- the set at a: what is in it (S), at most n -/
def SetMx (w : World) (h : Heap) (a : Addr) (S : Key → Prop) (n : Nat) : Prop := ∃ (o : Obj) (es : Array (Int × Value)) (ep : Nat) (t : SetTable), h.get? a = some o ∧ o.ExactSet ∧ o.data = .set es ep t ∧ (∀ e ∈ es.toList, ItemM w e) ∧ (es.toList.map mkOf).Nodup ∧
  (∀ k, k ∈ es.toList.map mkOf ↔ S k) ∧ t.fits es.size = true ∧ es.size ≤ n ∧ Ris t.place.toList ∧ (w.params.followText "set-order" = true ∨ t.led = true)
theorem SetMx.at {h h' : Heap} {S : Key → Prop} {n : Nat} (R : SetMx w h a S n) (k : ∀ o, h.get? a = some o → h'.get? a = some o) : SetMx w h' a S n := R.imp fun o ⟨es, ep, t, e, r⟩ => ⟨es, ep, t, k o e, r⟩
end
end L3
namespace L3
open PySem PySem.Spec PyProof.Rows L2
/-! ### set(xs) of whole numbers and texts -/
end L3
namespace L3
open PySem PySem.Spec PyProof.Rows L2
/-! ### sorted(set(xs)) of whole numbers or of texts -/
end L3
namespace L3
open PySem PySem.Spec PyProof.Rows L2
end L3
namespace L3
open PySem PySem.Spec PyProof.Rows L2
/-! ### boxes of draws: a list of three whole numbers whose numbers nobody asks for -/
end L3
namespace L3
open PySem L2
end L3
namespace L3
open PySem L2
/-! ### sorted(a dict) by whole numbers -/
end L3
namespace L3
open PySem L2
/-! ### zip of a list and a tuple, in any sequence -/
def n2 (xs ys : List V) : Nat := min xs.length ys.length
/-! by data -/
end L3
namespace L3
open PySem L2
/-! ### dict == dict, whose values are plain data -/
/-! ### xs.pop(i) -/
end L3
namespace L3
open PySem L2
/-! ### sorted of pairs (a whole number, anything), the numbers unlike -/
end L3
namespace L3
open PySem L2
/-! ### tuple * int, 1 too -/
end L3
namespace L3
open PySem L2
/-! ### equality of plain data with any texts -/
end L3
namespace L3
open PySem L2
/-! ### int(x) of an int, a bool, a text of digits -/
/-! ### xs[::-1] of a list -/
/-! ### f-strings -/
/-! ### a constant of the module that is a number or a text -/
end L3
namespace L3
open PySem L2
/-! ### comprehensions of two clauses -/
/-! ### list(range(a, b)) -/
/-! ### xs.pop(), xs.extend(ys), xs[::-1] as a list that may change -/
/-! ### x += e, x -= e of whole numbers, x a name -/
end L3
namespace L3
open PySem L2
/-! ### a dict of the module, text keys: d[k], k in d -/
/-! ### isinstance(x, C), C an own class -/
end L3
namespace L3
open PySem L2
/-! ### sorted(a dict) by texts -/
/-! ### a slice of a list that is changed later -/
/-! ### a sum of lists that is changed later -/
section
variable {X : Cx} {a b : Expr} {ta tb : TE} {wa wb : WE} {pos : Pos}
def catM : F2 := fun d e M Q => ∃ i j, (∃ a, d = .tok a ∨ d = .lst i) ∧ (∃ a, e = .tok a ∨ e = .lst j) ∧ seqD M d = some i ∧ seqD M e = some j ∧ i.length + j.length ≤ sizeLine ∧ ∀ p, M p = none → Q (.tok p) (setM M p (.lst (i ++ j)))
theorem sim_catM {K : PySem.W.Frag} : SimR K (rCatL K) catM := by
  intro Z x y d e H M Q Q' S r1 r2 ⟨i, j, h1, h2, s1, s2, l, z⟩ q
  obtain ⟨p, vs, rfl, hp, l1⟩ := lst_of S r1 h1 s1
  obtain ⟨p', ws, rfl, hp', l2⟩ := lst_of S r2 h2 s2
  refine ⟨p, p', vs, ws, rfl, rfl, hp, hp', by rw [l1.len, l2.len]; exact l, fun o ho => ?_⟩
  have g4 := Go.putL (p := o) S (.inl ho) (l1.app l2)
  exact q _ _ _ _ g4 (.tok o) (z o (S.free ho))
theorem de_catM (ha : DE X a ta wa) (hb : DE X b tb wb) : DE X (.BinOp a .Add b pos) (tOp (rCatL X.K) ta tb) (wOp catM wa wb) := de_op op_catL sim_catM ha hb
end
end L3
namespace L3
open PySem PySem.Spec PyProof.Rows L2
/-! ### sorted(a tuple), of any data -/
end L3
namespace L3
open PySem PySem.Spec PyProof.Rows L2 HT
/-! ### a tuple backwards: t[::-1] -/
end L3
namespace L3
open PySem PySem.Spec PyProof.Rows L2
/-! ### the module's dicts, from what the top has left -/
/-! ### len(set(xs)) of whole numbers or of texts -/
end L3
namespace L3
open PySem L2
/-! ### a comprehension's list that is changed later -/
end L3
namespace L3
open PySem PySem.Spec PyProof.Rows L2 HT
/-! ### a list made longer by a tuple backwards: xs.extend(t[::-1]) -/
end L3
namespace L3
open PySem L2
/-! ### a == b, a of an own class that has an __eq__ -/
end L3
namespace L3
open PySem L2
/-! ### a def with keyword-only parameters, by its contract -/
end L3
namespace PySem.HandSPX
open PySem PySem.Calls
open Builtin Builtin.ObjectAttr
section
variable {prog : Program} {w : World} {M : Model} {A : Around} {E : Value → Shared → Prop} {R : Result → Shared → Prop} {h : Heap} {g : Array GenState} {d : Drawn} {t : Nat} {os : OsState}
variable {nm q : Str} {C N : Addr} {bs bm bmB : List Value} {hdct : Bool} {sn : List Str} {sub : List Value} {ab : Bool} {col : Option Bool} {dd : Option Addr} {k0 k1 k2 k3 k5 : Option Value} {B newId initId : String} {kw : List (Str × Value)}
theorem check_new_ownK (F : ExcBaseFacts B newId initId bmB) (hT : ∀ X : String, bm.contains (.type X) = bmB.contains (.type X)) {rest : List Value} {Q : Unit → Shared → Prop}
    (hC : h.get? C = some (excClassObj nm q C N bs bm hdct sn sub ab col dd k0 k1 k2 k3 k5 newId)) (hq : Q () ⟨h, g, d, t, os⟩) : wpAny M A (checkBuiltinCall newId ⟨.ref C :: rest, kw⟩) Q E ⟨h, g, d, t, os⟩ := by
  have hcont : (Value.ref C :: bm).contains (.type B) = true := by rw [List.contains_cons, hT, F.hasB, Bool.or_true]
  have hstar := F.noStar
  simp only [checkBuiltinCall, F.newKind, F.newSplit, F.newRow]
  repeat (first | refine wpAny_loadPart_at hC ?_ | (refine wpAny_isSubtype_exc hC ?_; rw [hcont]) | refine wpAny_staticBase_exc hC ?_ | refine wpAny_madeBy_exc hC ?_ | simp only [bne_self_eq_false, Bool.false_eq_true, if_false] | wp_step)
  exact hq
theorem check_tcK {M : Model} {rest : List Value} {Q : Unit → Shared → Prop} (hC : h.get? C = some (excClassObj nm q C N bs bm hdct sn sub ab col dd k0 k1 k2 k3 k5 newId))
    (hq : Q () ⟨h, g, d, t, os⟩) : wpAny M A (checkBuiltinCall "type.__call__" ⟨.ref C :: rest, kw⟩) Q E ⟨h, g, d, t, os⟩ := by
  have f3 := tc_sub
  have hT : (⟨h, g, d, t, os⟩ : Shared).TypeIs (.ref C) "type" := ⟨_, hC, rfl⟩
  simp only [checkBuiltinCall, tc_kind, tc_split]
  repeat (any_goals (first | assumption | with_reducible refine wpAny_loadPart_at hC ?_ | with_reducible refine wpAny_onRaise ?_ | with_reducible refine wpAny_map ?_ | wp_step))
theorem new_ownK (F : ExcBaseFacts B newId initId bmB) (hT : ∀ X : String, bm.contains (.type X) = bmB.contains (.type X)) {rest : List Value}
    (hC : h.get? C = some (excClassObj nm q C N bs bm hdct sn sub ab col dd k0 k1 k2 k3 k5 newId))
    (hq : R (.ok (.ret (.ref (h.objs.size + 1)))) ⟨(h.push { cls := .type "tuple", data := .seq rest.toArray }).push
      { cls := .ref C, data := .fields #[.ref h.objs.size, .none, .none, .none, .bool false, .none] }, g, d, t, os⟩) (hrest : rest.length ≤ sizeLine) :
    codeAny (model prog w) A (.builtin newId ⟨.ref C :: rest, kw⟩) R ⟨h, g, d, t, os⟩ := by
  have hends := F.ends
  have hcB : (Value.ref C :: bm).contains (.type B) = true := by rw [List.contains_cons, hT, F.hasB, Bool.or_true]
  have hcA : (Value.ref C :: bm).contains (.type "AttributeError") = false := by rw [List.contains_cons, hT, F.noAttr]; rfl
  have hcN : (Value.ref C :: bm).contains (.type "NameError") = false := by rw [List.contains_cons, hT, F.noName]; rfl
  refine codeAny_builtinAt F.entry ?_
  unfold Builtin.«BaseException.__new__»
  refine wpAt_bind ?_
  show wpAt _ _ _ (stack >>= _) _ _ _
  refine wpAt_bind (wpAt_stack fun p below => wpAt_of_wpAny ?_)
  wp_walk
  refine wpAt_of_wpAny ?_
  rw [F.owner]
  repeat (first | with_reducible refine wpAny_madeHere_exc F.canon hC ?_ | with_reducible refine wpAny_loadPart_at hC ?_ | (with_reducible refine wpAny_isSubtype_exc hC ?_; first | rw [hcB] | rw [hcA] | rw [hcN]) | wp_step)
  show R _ _
  rw [Heap.size_push]
  exact hq
theorem type_call_ownK (F : ExcBaseFacts B newId initId bmB) (hT : ∀ X : String, bm.contains (.type X) = bmB.contains (.type X)) {rest : List Value} {fI : Addr} {Q : Fin → Shared → Prop}
    (hC : h.get? C = some (excClassObj nm q C N bs bm hdct sn sub ab col dd k0 k1 k2 k3 k5 newId))
    (hi : W.Looks (model prog w) h (typeLookup (.ref C) "__init__") (some (.ref fI))) (hb : ∀ self, W.Looks (model prog w) h (bindSpecial (.ref fI) self) (.ref fI, [self])) (hrest : rest.length ≤ sizeLine)
    (hq : codeAny (model prog w) A (.call (.ref fI) ⟨.ref (h.objs.size + 1) :: rest, kw⟩)
      (fun r s' => match r with | .ok (.ret v) => v = .none ∧ Q (.done (.ret (.ref (h.objs.size + 1)))) s' | .ok _ => False | .error e => E e s')
      ⟨(h.push (W.kdv_tup rest)).push (excO C h.objs.size), g, d, t, os⟩) :
    wpAny (model prog w) A (Builtin.«type.__call__» ⟨.ref C :: rest, kw⟩) Q E ⟨h, g, d, t, os⟩ := by
  repeat (first | with_reducible refine wpAny_loadPart_at hC ?_ | with_reducible refine wpAny_madeBy_exc hC ?_ | wp_step)
  refine codeAny_call_builtin_code (Code.quiet_builtin _ F.quiet) (check_new_ownK F hT hC ?_)
  refine new_ownK F hT hC ?_ hrest
  show wpAny _ _ _ _ _ _
  have k : ∀ b o, h.get? b = some o → ((h.push (W.kdv_tup rest)).push (excO C h.objs.size)).get? b = some o := fun b o e => Heap.get?_push_of_some _ (Heap.get?_push_of_some _ e)
  have hC₁ := k _ _ hC
  have hget : ((h.push (W.kdv_tup rest)).push (excO C h.objs.size)).get? (h.objs.size + 1) = some (excO C h.objs.size) := by heap_get
  have hcC : (Value.ref C :: bm).contains (.ref C) = true := by simp
  have i1 := hi.keeps k
  have b1 := (hb (.ref (h.objs.size + 1))).keeps k
  unfold isInstance
  repeat (first | with_reducible refine wpAny_loadPart_at hget ?_ | (with_reducible refine wpAny_isSubtype_exc hC₁ ?_; rw [hcC]) | wp_step)
  show wpAny _ _ (typeLookup (.ref C) _) _ _ _
  refine i1.at ?_
  refine wpAny_holding (wpAny_bind (b1.at ?_))
  refine wpAny_bind (wpAny_call (codeAny_mono hq fun r s' z => ?_))
  rcases r with e | (v | _ | _ | _) <;> first | exact z | exact z.elim | skip
  obtain ⟨rfl, z⟩ := z
  first
    | exact wpAny_pure (wpAny_pure z)
    | (wp_walk; exact z)
theorem call_ownK (F : ExcBaseFacts B newId initId bmB) (hT : ∀ X : String, bm.contains (.type X) = bmB.contains (.type X)) {rest : List Value} {fI : Addr}
    (hC : h.get? C = some (excClassObj nm q C N bs bm hdct sn sub ab col dd k0 k1 k2 k3 k5 newId))
    (hi : W.Looks (model prog w) h (typeLookup (.ref C) "__init__") (some (.ref fI))) (hb : ∀ self, W.Looks (model prog w) h (bindSpecial (.ref fI) self) (.ref fI, [self])) (hrest : rest.length ≤ sizeLine)
    (hq : codeAny (model prog w) (A.under (.builtin "type.__call__" ⟨.ref C :: rest, kw⟩)) (.call (.ref fI) ⟨.ref (h.objs.size + 1) :: rest, kw⟩) (W.InitBack (h.objs.size + 1) R)
      ⟨(h.push (W.kdv_tup rest)).push (excO C h.objs.size), g, d, t, os⟩) :
    codeAny (model prog w) A (.call (.ref C) ⟨rest, kw⟩) R ⟨h, g, d, t, os⟩ := by
  have f1 := tc_lookup
  have f2 := tc_bind (.ref C)
  have hTy : (⟨h, g, d, t, os⟩ : Shared).TypeIs (.ref C) "type" := ⟨_, hC, rfl⟩
  refine codeAny_of_tree ?_
  show wpAny _ _ (callAny (.ref C) _) _ _ _
  repeat (any_goals (first | assumption | with_reducible refine wpAny_loadPart_at hC ?_ | wp_step))
  refine ⟨rfl, ?_⟩
  refine codeAny_call_builtin_at (Code.quiet_builtin _ (by decide +kernel)) entry_typeCall (check_tcK hC (type_call_ownK F hT hC hi hb hrest ?_))
  refine codeAny_mono hq fun r s' z => ?_
  rcases r with e | (v | _ | _ | _) <;> exact z
end
end PySem.HandSPX
namespace L3
open PySem L2
/-! ### exceptions as values: cells `.err` -/
def tMkE (K : PySem.W.Frag) (y : Str) (sp : Sp) (ta : TA) : TE := fun σ H Q => ta σ H fun vs H1 => vs.length ≤ 1000 ∧ ∃ C, ClsAt K y C ∧ ∀ a, H1 a = none → sp (.ref a :: vs) (upd H1 a (exo a C none)) (fun v H2 => v = .non ∧ Q (.ref a) H2) fun _ _ _ => False
def tMkEK (K : PySem.W.Frag) (y : Str) (sp : Sp) (idx : List Nat) (k : Nat) (tk : TA) : TE := fun σ H Q => tk σ H fun zs H1 => zs.length = k ∧ ∃ C, ClsAt K y C ∧ ∀ a, H1 a = none → sp (perm idx [.ref a] zs) (upd H1 a (exo a C none)) (fun v H2 => v = .non ∧ Q (.ref a) H2) fun _ _ _ => False
section
variable {X : Cx} {e : Expr} {es : List Expr} {ta tk : TA} {p pos : Pos} {x : Str} {C fI : Addr} {k : Nat} {fd : FuncData} {ps : List Str} {sp : Sp} {kws : List Keyword}
theorem run_mkE {CX : CXT} {pins : List (Addr × Obj)} {σ : L2.St} {H1 : Hp} {s1 : Shared} {Q : VK} {us : List Value} {kw : List (Str × Value)} {wsf : Value → List Value} {vsf : V → List V} (T : OexC X.K C) (iC : PySem.W.findIn X.K (.ref C) "__init__" = some (some (.ref fI))) (tI : PySem.W.typeIn X.K (.ref fI) = some (.type "function"))
    (F1 : FnOk X.prog X.w X.K X.mg X.base CX k fI fd ps sp) (hr : Room (k + 1) X.A) (hx : Passes CX X (fun _ _ _ => False)) (I1 : Inv X pins σ H1 s1) (hus : us.length ≤ sizeLine)
    (hb : ∀ (s : Shared) (a : Addr), X.K.In s.heap → (wsf (.ref a)).length = ps.length → BindsTo s fd ⟨.ref a :: us, kw⟩ (ps.zip (wsf (.ref a)))) (r : ∀ a, Vals (vsf (.ref a)) (wsf (.ref a)))
    (q1 : ∀ a, H1 a = none → sp (vsf (.ref a)) (upd H1 a (exo a C none)) (fun v H2 => v = .non ∧ Q (.ref a) H2) fun _ _ _ => False) :
    wpAny (model X.prog X.w) X.A (call (.ref C) us kw) (EP X pins σ Q) X.xe s1 := by
  obtain ⟨nm, q, N, bs, bm, sn, sub, ab, col, dd, k0, k1, k2, k3, k5, hC, hbm⟩ := T.cls
  obtain ⟨hp, g, dr, tk, os⟩ := s1
  have hsz : hp.objs.size ≤ hp.objs.size + 1 := Nat.le_succ _
  have hn : H1 (hp.objs.size + 1) = none := I1.hok.fresh hsz
  have hq := q1 (hp.objs.size + 1) hn
  have kk : ∀ b o, hp.get? b = some o → ((hp.push (PySem.W.kdv_tup us)).push (PySem.HandSPX.excO C hp.objs.size)).get? b = some o := fun b o e => Heap.get?_push_of_some _ (Heap.get?_push_of_some _ e)
  have hget : ((hp.push (PySem.W.kdv_tup us)).push (PySem.HandSPX.excO C hp.objs.size)).get? (hp.objs.size + 1) = some (PySem.HandSPX.excO C hp.objs.size) := by heap_get
  have I2 : Inv X pins σ (upd H1 (hp.objs.size + 1) (exo (hp.objs.size + 1) C none)) ⟨(hp.push (PySem.W.kdv_tup us)).push (PySem.HandSPX.excO C hp.objs.size), g, dr, tk, os⟩ :=
    I1.laid (t' := tk) (a := hp.objs.size + 1) (o := exo (hp.objs.size + 1) C none) (h' := (hp.push (PySem.W.kdv_tup us)).push (PySem.HandSPX.excO C hp.objs.size)) kk hsz (exo_ok hget)
  have hl : (wsf (.ref (hp.objs.size + 1))).length = ps.length := by
    have e := (r (hp.objs.size + 1)).length
    rw [F1.len _ _ _ _ hq] at e
    exact e.symm
  refine wpAny_call (PySem.HandSPX.call_ownK F.excBase_ValueError (fun Y => PySem.HandSPX.refsVE_contains Y bm hbm) (I1.kIn _ _ hC) (PySem.W.looks_findIn I1.kIn iC) (fun self => PySem.W.bind_fn I1.kIn self tI) hus
    (codeAny_mono (F1.run _ X.stack _ _ ⟨Value.ref (hp.objs.size + 1) :: us, kw⟩ (wsf (.ref (hp.objs.size + 1))) _ _ (fun _ _ _ => False) (hr.make C us kw) (I2.env0.make C us kw) (hb _ _ I2.kIn hl) (r _) hq) fun rr s' hq' => ?_))
  cases rr with
  | error er => exact hx pins σ _ _ er s' I2 hq'
  | ok fl =>
    cases fl with
    | ret u =>
      obtain ⟨v, H2, os2, bare2, un2, hok2, rv, ev, q2⟩ := hq'
      subst ev
      obtain ⟨h2, g2, d2, t2, os'⟩ := s'
      exact ⟨rv, .ref (hp.objs.size + 1), H2, I2.call' (ch := []) os2 un2 hok2 bare2 (fun b z => absurd z (by simp)), rfl, q2⟩
    | next => exact False.elim hq'
    | brk => exact False.elim hq'
    | cont => exact False.elim hq'
theorem pe_mkE {CX : CXT} (cl : ClsAt X.K x C) (T : OexC X.K C) (iC : PySem.W.findIn X.K (.ref C) "__init__" = some (some (.ref fI))) (tI : PySem.W.typeIn X.K (.ref fI) = some (.type "function")) (F1 : FnOk X.prog X.w X.K X.mg X.base CX k fI fd ps sp) (hr : Room (k + 1) X.A) (hb : Binds X.K fd ps []) (hx : Passes CX X (fun _ _ _ => False)) (hg : Gl X x) (hm : X.mg x = some (.ref C)) (ha : PA X (e :: es) ta)
    (hdb : (x == ("__debug__" : Str)) = false := by decide) (he : starEach (e :: es) X.env = (false, eval e X.env) :: starEach es X.env := by rfl) (hpl : (backTo pos (starEach es X.env)).any (·.1) = false := by rfl) :
    PE X (.Call (.Name x p) (e :: es) [] pos) (tMkE X.K x sp ta) := by
  refine ⟨fun pins s σ H Q I h => wpAny_Call_Name_kw (ld_glob I hg hm ?_ hdb)⟩
  refine PySem.W.callWith_K (h₀ := X.base) I.ok.mod.kin T.kC (thn (ha.run pos pins s σ H _ I h) fun us s1 ⟨vs, H1, I1, r1, hz, C', cl', q1⟩ => ⟨I1.kIn, ?_⟩) he hpl
  obtain rfl := one_cls cl cl'
  show wpAny _ _ (call (.ref C) us) _ _ _
  refine run_mkE (us := us) (kw := []) (wsf := fun a => a :: us) (vsf := fun a => a :: vs) T iC tI F1 hr hx I1 ?_ (fun s a hk hl => ?_) (fun a => .cons rfl r1) q1
  · rw [← Paired.length r1, sizeLine_eq]
    omega
  · have z := hb s (.ref a :: us) hk (by rw [List.append_nil]; exact hl)
    rw [List.append_nil] at z
    exact z
theorem pe_mkEK0 {CX : CXT} {ks : List Str} {idx : List Nat} (cl : ClsAt X.K x C) (T : OexC X.K C) (iC : PySem.W.findIn X.K (.ref C) "__init__" = some (some (.ref fI))) (tI : PySem.W.typeIn X.K (.ref fI) = some (.type "function")) (F1 : FnOk X.prog X.w X.K X.mg X.base CX k fI fd ps sp) (hr : Room (k + 1) X.A) (hb : KB X.K fd ps 1 ks idx) (hx : Passes CX X (fun _ _ _ => False)) (hg : Gl X x) (hm : X.mg x = some (.ref C)) (hkw : PK X kws tk)
    (hall : (backToKw pos (keywordEach kws X.env)).all (·.1.isSome) = true := by rfl) (hks : (backToKw pos (keywordEach kws X.env)).filterMap (·.1) = ks := by rfl)
    (hdb : (x == ("__debug__" : Str)) = false := by decide) (hpl : ((backTo pos (starEach [] X.env)).any (·.1) || (backToKw pos (keywordEach kws X.env)).any (·.1.isNone)) = false := by rfl) :
    PE X (.Call (.Name x p) [] kws pos) (tMkEK X.K x sp idx ks.length tk) := by
  refine ⟨fun pins s σ H Q I h => wpAny_Call_Name_kw (ld_glob I hg hm ?_ hdb)⟩
  refine PySem.W.callWith_KW0 (h₀ := X.base) I.ok.mod.kin T.kC hall ?_ hpl
  refine thn (hkw.run pos pins s σ H _ I h) fun ws s1 ⟨zs, H1, I1, rz, l1, C', cl', q1⟩ => ⟨I1.kIn, ?_⟩
  obtain rfl := one_cls cl cl'
  rw [hks]
  exact run_mkE (us := []) (kw := ks.zip ws) (wsf := fun a => permU idx [a] ws) (vsf := fun a => perm idx [a] zs) T iC tI F1 hr hx I1 (Nat.zero_le _) (fun s a hk _ => hb s [.ref a] ws hk rfl (by rw [← rz.length]; exact l1)) (fun a => perm_rel idx (.cons rfl .nil) rz) q1
end
/-- a class of errors that is made as a value -/
structure ErrV (P : Program) (w : World) (K : PySem.W.Frag) (mg : Str → Option Value) (base : Heap) (k : Nat) (x q : Str) (st : Stmt) (ps ns : List Str) : Prop where
  ex : ∃ (C fI : Addr) (fd : FuncData), ClsAt K x C ∧ mg x = some (.ref C) ∧ OexC K C ∧ PySem.W.findIn K (.ref C) "__init__" = some (some (.ref fI)) ∧ PySem.W.typeIn K (.ref fI) = some (.type "function") ∧
    (∀ f ∈ ns, PySem.W.findIn K (.ref C) f = some none) ∧ FnOk P w K mg base (L2.CX P w) k fI fd ps (spI K ns) ∧ Binds K fd ps [] ∧ Fun K "__init__" q st fI fd
theorem Go.err {K : PySem.W.Frag} {Z H : Hp} {M : Mp} {a C dx : Addr} {x : Str} {fv : List (Str × V)} {fs : List (Str × D)} (S : Sat K Z H M) (cl : ClsAt K x C) (h1 : H a = none) (hd : fz Z H M dx = some (exd dx fv)) (r : RepF K (fz Z H M) fv fs) :
    Go K Z H M (upd H a (exo a C (some dx))) (setM M a (.err x fs)) := Go.put S (.inl h1) fun ex => ⟨C, dx, fv, cl, upd_same, ex _ _ hd, r.up ex⟩
theorem repf_zip {K : PySem.W.Frag} {H : Hp} {ns : List Str} {vs : List V} {ds : List D} (h : ns.length = vs.length) (r : RepL K H vs ds) : RepF K H (ns.zip vs).reverse (ns.zip ds).reverse := by
  have h2 : ns.length = ds.length := by rw [← r.len]; exact h
  refine ⟨?_, ?_⟩
  · rw [List.map_reverse, List.map_reverse, List.map_fst_zip (by omega), List.map_fst_zip (by omega)]
  · rw [List.map_reverse, List.map_reverse, List.map_snd_zip (by omega), List.map_snd_zip (by omega)]
    exact r.rev
theorem mkE_lift {K : PySem.W.Frag} {Z H0 H : Hp} {M0 M : Mp} {Q : KD} {Q' : VK} {x : Str} {C a : Addr} {ns : List Str} {vs : List V} {ds : List D} (g0 : Go K Z H0 M0 H M) (cl : ClsAt K x C) (T : OexC K C) (hno : ∀ f ∈ ns, PySem.W.findIn K (.ref C) f = some none) (l : ds.length = ns.length) (hna : H a = none) (z : Q (.tok a) (setM M a (.err x (ns.zip ds).reverse))) (r : RepL K (fz Z H M) vs ds)
    (q : ∀ v d H' M', Go K Z H0 M0 H' M' → Rep K (fz Z H' M') v d → Q d M' → Q' v H') :
    spI K ns (.ref a :: vs) (upd H a (exo a C none)) (fun v H2 => v = .non ∧ Q' (.ref a) H2) fun _ _ _ => False := by
  have lv : vs.length = ns.length := by rw [r.len]; exact l
  refine ⟨a, C, vs, rfl, lv, T, hno, upd_same, fun dx hdx hne => ⟨rfl, ?_⟩⟩
  rw [upd_ne hne] at hdx
  have eq : upd (upd (upd H a (exo a C none)) dx (exd dx (ns.zip vs).reverse)) a (exo a C (some dx)) = upd (upd H dx (exd dx (ns.zip vs).reverse)) a (exo a C (some dx)) := by
    funext b
    by_cases hb : b = a
    · subst hb
      rw [upd_same, upd_same]
    · rw [upd_ne hb, upd_ne hb]
      by_cases hb2 : b = dx
      · subst hb2
        rw [upd_same, upd_same]
      · rw [upd_ne hb2, upd_ne hb2, upd_ne hb]
  rw [eq]
  obtain ⟨g2, n2⟩ := Go.laid (p := dx) (o := exd dx (ns.zip vs).reverse) g0.sat hdx
  have h3 : upd H dx (exd dx (ns.zip vs).reverse) a = none := by rw [upd_ne (Ne.symm hne)]; exact hna
  have g3 := Go.err (x := x) g2.sat cl h3 n2 (repf_zip (K := K) lv.symm (r.up g2.ex))
  exact q _ _ _ _ (g0.trans (g2.trans g3)) (.tok a) z
def wErr (x : Str) (ns : List Str) (wr : WA) : WE := fun ρ M Q => wr ρ M fun ds M1 => ds.length ≤ 1000 ∧ ds.length = ns.length ∧ ∀ a, M1 a = none → Q (.tok a) (setM M1 a (.err x (ns.zip ds).reverse))
def wErrK (x : Str) (ns : List Str) (idx : List Nat) (k : Nat) (wk : WA) : WE := fun ρ M Q => wk ρ M fun es M1 => es.length = k ∧ ∀ a, M1 a = none → ∃ ds, permD idx [.tok a] es = .tok a :: ds ∧ ds.length = ns.length ∧ Q (.tok a) (setM M1 a (.err x (ns.zip ds).reverse))
section
variable {X : Cx} {e : Expr} {es : List Expr} {te : TE} {we : WE} {tr tk : TA} {wr wk : WA} {p p2 pos : Pos} {x q : Str} {k : Nat} {st : Stmt} {ps ns : List Str} {kws : List Keyword}
theorem de_err (h : ErrV X.prog X.w X.K X.mg X.base k x q st ps ns) (hr : Room (k + 1) X.A) (ha : DA X (e :: es) tr wr) (hg : Gl X x := by rfl)
    (hdb : (x == ("__debug__" : Str)) = false := by decide) (he : starEach (e :: es) X.env = (false, eval e X.env) :: starEach es X.env := by rfl) (hpl : (backTo pos (starEach es X.env)).any (·.1) = false := by rfl) :
    DE X (.Call (.Name x p) (e :: es) [] pos) (tMkE X.K x (spI X.K ns) tr) (wErr x ns wr) := by
  obtain ⟨C, fI, fd, cl, hm, T, iC, tI, hno, F1, hb, Fn⟩ := h.ex
  refine ⟨pe_mkE cl T iC tI F1 hr hb passL hg hm ha.pe hdb he hpl, fun Z ρ M σ H Q Q' s h q => ?_⟩
  refine ha.sm Z ρ M σ H _ _ s h fun vs ds H1 M1 g1 r1 ⟨l1, l2, z⟩ => ⟨by rw [r1.len]; exact l1, C, cl, fun a hna => ?_⟩
  exact mkE_lift g1 cl T hno l2 hna (z a (g1.sat.free hna)) r1 q
theorem de_errK {ks : List Str} {idx : List Nat} (h : ErrV X.prog X.w X.K X.mg X.base k x q st ps ns) (hr : Room (k + 1) X.A) (kb : KwM "__init__" q st ps 1 ks idx) (hkw : DK X kws tk wk) (hg : Gl X x := by rfl)
    (hall : (backToKw pos (keywordEach kws X.env)).all (·.1.isSome) = true := by rfl) (hks : (backToKw pos (keywordEach kws X.env)).filterMap (·.1) = ks := by rfl)
    (hdb : (x == ("__debug__" : Str)) = false := by decide) (hpl : ((backTo pos (starEach [] X.env)).any (·.1) || (backToKw pos (keywordEach kws X.env)).any (·.1.isNone)) = false := by rfl) :
    DE X (.Call (.Name x p) [] kws pos) (tMkEK X.K x (spI X.K ns) idx ks.length tk) (wErrK x ns idx ks.length wk) := by
  obtain ⟨C, fI, fd, cl, hm, T, iC, tI, hno, F1, hb, Fn⟩ := h.ex
  refine ⟨pe_mkEK0 cl T iC tI F1 hr (kbm_of Fn kb) passL hg hm hkw.pe hall hks hdb hpl, fun Z ρ M σ H Q Q' s h q => ?_⟩
  refine hkw.sm Z ρ M σ H _ _ s h fun zs es H1 M1 g1 r1 ⟨l1, z⟩ => ⟨by rw [r1.len]; exact l1, C, cl, fun a hna => ?_⟩
  obtain ⟨ds, e1, l2, qd⟩ := z a (g1.sat.free hna)
  have rp := perm_repL (K := X.K) idx (.cons (.tok a) .nil) r1
  rw [e1] at rp
  generalize perm idx [V.ref a] zs = pv at rp ⊢
  cases rp with
  | cons r0 rt =>
    cases r0
    exact mkE_lift g1 cl T hno l2 hna qd rt q
/-! e.f -/
def wEf (f : Str) (L : List Str) (we : WE) : WE := fun ρ M Q => we ρ M fun d M1 => match d with
  | .tok a => ∃ y fs, M1 a = some (.err y fs) ∧ y ∈ L ∧ ∃ d, fs.lookup f = some d ∧ Q d M1
  | _ => False
def tEf (K : PySem.W.Frag) (f : Str) (L : List Str) (te : TE) : TE := fun σ H Q => te σ H fun x H1 => ∃ (a C dx : Addr) (y : Str) (fs : List (Str × V)) (v : V), x = .ref a ∧ ClsAt K y C ∧ y ∈ L ∧ H1 a = some (exo a C (some dx)) ∧ H1 dx = some (exd dx fs) ∧ fs.lookup f = some v ∧ Q v H1
theorem pe_ef {f : Str} {L : List Str} (T : ∀ y C, ClsAt X.K y C → y ∈ L → ErrF X.K C) (hno : ∀ y C, ClsAt X.K y C → y ∈ L → PySem.W.findIn X.K (.ref C) f = some none) (he : PE X e te) (hb : attributeBase e f X.env (eval e X.env) = eval e X.env := by rfl) :
    PE X (.Attribute e f pos) (tEf X.K f L te) := by
  refine ⟨fun pins s σ H Q I h => ?_⟩
  refine attr_of hb (thn (he.run pins s σ H _ I h) fun u s1 hh => ?_)
  obtain ⟨x, H1, I1, rx, a, C, dx, y, fs, v, ex, cl, hy, ea, ed, l, q⟩ := hh
  subst ex
  obtain rfl : u = Value.ref a := rx
  obtain ⟨t1, ho⟩ := exo_at I1.hok ea
  obtain ⟨mA, hns, hr⟩ := exd_at I1.hok ed
  obtain ⟨od, hod, hl⟩ := lookIn_ns hns
  obtain ⟨u, hu, ru⟩ := RelO.some_of (v := v) (o := mA f) (by rw [← l]; exact hr f)
  have J : PySem.W.InstAt s1.heap a { cls := .ref C, dict := some dx, data := .fields #[.ref t1, .none, .none, .none, .bool false, .none] } C (some od) := ⟨ho, rfl, rfl, hod⟩
  have TT := T y C cl hy
  exact HandSPX.exc_get I1.kIn J TT.xf.ga TT.xf.gg TT.xf.exC (PySem.W.findObj_own TT.xf.hdC (hno y C cl hy) rfl (by rw [hl, hu])) (handed_of ru) ⟨v, H1, I1.tok _, ru, q⟩
theorem err_at {K : PySem.W.Frag} {Z H : Hp} {M : Mp} {a : Addr} {y : Str} {fs : List (Str × D)} (S : Sat K Z H M) (h : M a = some (.err y fs)) : ∃ C dx fv, ClsAt K y C ∧ H a = some (exo a C (some dx)) ∧ H dx = some (exd dx fv) ∧ RepF K (fz Z H M) fv fs := by
  obtain ⟨C, dx, fv, cl, e1, e2, r⟩ := S.cell a _ h
  exact ⟨C, dx, fv, cl, e1, fz_sub _ _ e2, r⟩
theorem de_ef {f : Str} {L : List Str} (T : ∀ y C, ClsAt X.K y C → y ∈ L → ErrF X.K C) (hno : ∀ y C, ClsAt X.K y C → y ∈ L → PySem.W.findIn X.K (.ref C) f = some none) (he : DE X e te we) (hb : attributeBase e f X.env (eval e X.env) = eval e X.env := by rfl) :
    DE X (.Attribute e f pos) (tEf X.K f L te) (wEf f L we) := by
  refine ⟨pe_ef T hno he.pe hb, fun Z ρ M σ H Q Q' s h q => ?_⟩
  refine he.sm Z ρ M σ H _ _ s h fun v d H1 M1 g1 r1 q1 => ?_
  cases d with
  | tok a =>
    cases r1
    obtain ⟨y, fs, hm, hy, d, hl, q2⟩ := q1
    obtain ⟨C, dx, fv, cl, e1, e2, r⟩ := err_at g1.sat hm
    obtain ⟨v, hv, rv⟩ := repf_some r hl
    exact ⟨a, C, dx, y, fv, v, rfl, cl, hy, e1, e2, hv, q v d H1 M1 g1 rv q2⟩
  | _ => exact q1.elim
/-! isinstance(e, c) -/
def rIsEv (K : PySem.W.Frag) (cv : Value) : List V → Hp → VK → Prop := fun xs H Q => ∃ (a C dx : Addr) (c : V) (b : Bool) (fs : List (Str × V)), xs = [.ref a, c] ∧ (∀ u, RelV c u → u = cv) ∧ H a = some (exo a C (some dx)) ∧ H dx = some (exd dx fs) ∧ ErrF K C ∧ PySem.W.kitOne K (.ref C) cv = some b ∧ Q (.bl b) H
theorem call_isEv {cv : Value} : CallR X (.builtin "isinstance") (rIsEv X.K cv) := by
  intro pins s σ H xs us Q I r h
  obtain ⟨a, C, dx, c, b, fs, rfl, hcv, ha, hd, T, e, q⟩ := h
  cases r with
  | cons rx rr =>
  cases rr with
  | cons rt rr =>
  cases rr
  cases rx
  have ec := hcv _ rt
  subst ec
  obtain ⟨t1, hget⟩ := exo_at I.hok ha
  obtain ⟨mA, hns, _⟩ := exd_at I.hok hd
  obtain ⟨od, ho, _⟩ := lookIn_ns hns
  have J : PySem.W.InstAt s.heap a { cls := .ref C, dict := some dx, data := .fields #[.ref t1, .none, .none, .none, .bool false, .none] } C (some od) := ⟨hget, rfl, rfl, ho⟩
  exact PySem.W.kia_one (PySem.W.kitx_exc T.cl T.xf.ga T.xf.gg T.xf.exC T.ha T.hn T.ht T.hm) I.kIn J e (fun z => nomatch z) fun tk => ⟨.bl b, H, I.kept (t' := tk) fun _ _ z => z, rfl, q⟩
def wIsEv (L : List Str) (tab : Str → Option Bool) (we : WE) : WE := fun ρ M Q => we ρ M fun d M1 => match d with
  | .tok a => ∃ y fs, M1 a = some (.err y fs) ∧ y ∈ L ∧ ∃ b, tab y = some b ∧ Q (.bl b) M1
  | _ => False
theorem de_isEv {L : List Str} {tab : Str → Option Bool} {v : V} {cv : Value} (T : ∀ y C, ClsAt X.K y C → y ∈ L → ErrF X.K C) (ht : ∀ y C b, ClsAt X.K y C → y ∈ L → tab y = some b → PySem.W.kitOne X.K (.ref C) cv = some b)
    (hv : ∀ u, RelV v u → u = cv) (hm : X.mg "isinstance" = none) (he : DE X e te we) (hc : PE X (.Name x p2) (tC v)) (hg : Gl X "isinstance" := by rfl)
    (hs : starEach [e, .Name x p2] X.env = (false, eval e X.env) :: starEach [.Name x p2] X.env := by rfl) (hpl : (backTo pos (starEach [.Name x p2] X.env)).any (·.1) = false := by rfl)
    (hs2 : starEach [.Name x p2] X.env = [(false, eval (.Name x p2) X.env)] := by rfl) :
    DE X (.Call (.Name "isinstance" p) [e, .Name x p2] [] pos) (tCB (rIsEv X.K cv) (tCons te (tCons (tC v) tNil))) (wIsEv L tab we) := by
  refine ⟨pe_callB call_isEv hg hm (by decide +kernel) (pa_cons he.pe (pa_cons hc pa_nil hs2) hs) (by decide) (by decide) hs hpl, fun Z ρ M σ H Q Q' s h q => ?_⟩
  refine he.sm Z ρ M σ H _ _ s h fun w d H1 M1 g1 r1 q1 => ?_
  cases d with
  | tok a =>
    cases r1
    obtain ⟨y, fs, hm2, hy, b, hb, q2⟩ := q1
    obtain ⟨C, dx, fv, cl, e1, e2, r⟩ := err_at g1.sat hm2
    exact ⟨a, C, dx, v, b, fv, rfl, hv, e1, e2, T y C cl hy, ht y C b cl hy hb, q _ _ H1 M1 g1 (.bl b) q2⟩
  | _ => exact q1.elim
end
/-! str of a tuple of data -/
section
variable {prog : Program} {w : World} {h : Heap}
theorem RdD.strOf {a : Addr} {d : PyData} {A : Around} {E : Value → Shared → Prop} {s : Shared} {Q : Value → Shared → Prop} (r : RdD h (.ref a) d) (hs : d.showable = true) (hg : A.guards = some []) (hu : A.units + (d.depth + 1) < cLine) (hk0 : ∀ b o, h.get? b = some o → s.heap.get? b = some o)
    (hQ : ∀ h' u tk, (∀ b o, s.heap.get? b = some o → h'.get? b = some o) → Q (.str d.shown u) { s with heap := h', toks := tk }) (z : d.shown.length ≤ sizeLine) : wpAny (model prog w) A (Builtin.Str.strOf (.ref a)) Q E s := by
  obtain ⟨T, idr, S⟩ := r.shows (prog := prog) (w := w) hs z
  exact wpAny_strOf_slot rfl (by omega) (S.typeIs s hk0) S.slotStr S.slotRepr (S.call A.in1 E s _ hg (by show A.units + 1 + d.depth < cLine; omega) hk0 fun h' u tk hk => ⟨_, _, rfl, hQ h' u tk hk⟩)
theorem RdD.str_call {a : Addr} {d : PyData} {A : Around} {E : Value → Shared → Prop} {s : Shared} {Q : Value → Shared → Prop} (r : RdD h (.ref a) d) (hs : d.showable = true) (hg : A.guards = some []) (hu : A.units + (d.depth + 3) < cLine) (hk0 : ∀ b o, h.get? b = some o → s.heap.get? b = some o)
    (hQ : ∀ h' u tk, (∀ b o, s.heap.get? b = some o → h'.get? b = some o) → Q (.str d.shown u) { s with heap := h', toks := tk }) (z : d.shown.length ≤ sizeLine) : wpAny (model prog w) A (call (.type "str") [.ref a]) Q E s :=
  callType_new F.called_str (by decide) (F.typeCall_str_1 _) (F.newCall_str_1 _) (fun obj => F.args_object_init_2 obj _) F.entry_str_new
    (meets_str_new (S := fun A' R s' => A'.guards = some [] ∧ A'.units + (d.depth + 2) < cLine ∧ (∀ b o, h.get? b = some o → s'.heap.get? b = some o) ∧
        ∀ h' u tk, (∀ b o, s'.heap.get? b = some o → h'.get? b = some o) → R (.ok (.ret (.str d.shown u))) { s' with heap := h', toks := tk })
      fun prog' w' A' R s' h => RdD.strOf (prog := prog') (w := w') (A := A'.in1) r hs h.1 (by show A'.units + 1 + (d.depth + 1) < cLine; have := h.2.1; omega) h.2.2.1 h.2.2.2 z)
    ⟨hg, by show A.units + 1 + (d.depth + 2) < cLine; omega, hk0, fun h' u tk hk => ⟨typeIs_str _ _ _, hQ h' u tk hk⟩⟩
end
theorem call_str_tup {X : Cx} {k : Nat} (hr : Room k X.A) (gd : X.A.guards = some []) : CallR X (.type "str") (fun xs H Q => ∃ (x : V) (ds : List D) (n : Nat), xs = [x] ∧ Rep X.K H x (.tup ds) ∧ shw n (.tup ds) ∧ n ≤ 60 ∧ cost (.tup ds) ≤ 16000000 ∧ Q (.str (shown (.tup ds))) H) := by
  intro pins s σ H vs us Q I r h
  obtain ⟨x, ds, n, rfl, rp, sh, hn, hc, q⟩ := h
  obtain ⟨u, rfl, ru⟩ := vals1 r
  have hs := shw_show n _ sh
  have hl := shw_cost n _ sh
  have hz : (D.tup ds).py.shown.length ≤ sizeLine := by
    rw [sizeLine_eq]
    omega
  have hd := hs.2
  have hu := hr.units
  have rd := Rep.rdd I n _ x u sh rp ru
  cases rp
  cases ru
  exact rd.str_call hs.1 gd (by omega) (fun _ _ e => e) (fun h' u' tk hk => ⟨.str _, H, I.kept hk, ⟨_, rfl⟩, q⟩) hz
def fStrT : FC := fun ds M Q => match ds with
  | [.tup es] => ∃ n : Nat, shw n (.tup es) ∧ n ≤ 60 ∧ cost (.tup es) ≤ 16000000 ∧ Q (.str (shown (.tup es))) M
  | _ => False
theorem sim_strT {K : PySem.W.Frag} : SimC K (fun xs H Q => ∃ (x : V) (ds : List D) (n : Nat), xs = [x] ∧ Rep K H x (.tup ds) ∧ shw n (.tup ds) ∧ n ≤ 60 ∧ cost (.tup ds) ≤ 16000000 ∧ Q (.str (shown (.tup ds))) H) fStrT := by
  intro Z xs ds H M Q Q' S r f q
  unfold fStrT at f
  split at f
  · obtain ⟨n, h1, h2, h3, h4⟩ := f
    cases r with
    | cons r0 r1 =>
      cases r1
      exact ⟨_, _, n, rfl, r0.up fz_sub, h1, h2, h3, q _ _ H M (Go.refl S) (.str _) h4⟩
  · exact f.elim
end L3
set_option maxHeartbeats 0
namespace K01
open PySem L2 L3
open PyProof.Rows (envOfC)
def top (i : Nat) : Stmt := PySem.Challenge.pw_nonearer_k01_vectors_told_and_refused.main.body.getD i (.Pass ⟨0, 0, 0, 0⟩)
abbrev s_is_int : Stmt := top 1
abbrev s_is_tuple_of : Stmt := top 2
abbrev s_is_vector : Stmt := top 15
abbrev s_check_vector : Stmt := top 16
abbrev s_is_kind : Stmt := top 19
abbrev s__law_heap : Stmt := top 21
abbrev s__law_draw : Stmt := top 22
abbrev s__law_pick : Stmt := top 23
abbrev s__law_heard : Stmt := top 24
abbrev s__law_right : Stmt := top 25
abbrev s__law_spoilt_right : Stmt := top 26
abbrev s__law_errors_right : Stmt := top 27
abbrev s_law : Stmt := top 28
abbrev i_InvalidVector : Stmt := clsAt (top 5) 0
abbrev i_InvalidItem : Stmt := clsAt (top 6) 0
abbrev i_InvalidFilter : Stmt := clsAt (top 7) 0
abbrev i_InvalidQuestion : Stmt := clsAt (top 8) 0
abbrev i_InvalidText : Stmt := clsAt (top 9) 0
abbrev i_InvalidPaper : Stmt := clsAt (top 10) 0
abbrev i_InvalidNumber : Stmt := clsAt (top 11) 0
abbrev i_Refused : Stmt := clsAt (top 12) 0
abbrev i_Broken : Stmt := clsAt (top 13) 0
def c_KINDS : D := (.tup [.str "square", .str "sum", .str "most", .str "unlike"])
def errNames : List Str := ["StoreError", "InvalidVector", "InvalidItem", "InvalidFilter", "InvalidQuestion", "InvalidText", "InvalidPaper", "InvalidNumber", "Refused", "Broken"]
def L_Broken : List (Str × Bool) := [("StoreError", false), ("InvalidVector", false), ("InvalidItem", false), ("InvalidFilter", false), ("InvalidQuestion", false), ("InvalidText", false), ("InvalidPaper", false), ("InvalidNumber", false), ("Refused", false), ("Broken", true)]
def tab_Broken : Str → Option Bool := fun x => L_Broken.lookup x
def L_InvalidFilter : List (Str × Bool) := [("StoreError", false), ("InvalidVector", false), ("InvalidItem", false), ("InvalidFilter", true), ("InvalidQuestion", false), ("InvalidText", false), ("InvalidPaper", false), ("InvalidNumber", false), ("Refused", false), ("Broken", false)]
def tab_InvalidFilter : Str → Option Bool := fun x => L_InvalidFilter.lookup x
def L_InvalidItem : List (Str × Bool) := [("StoreError", false), ("InvalidVector", false), ("InvalidItem", true), ("InvalidFilter", false), ("InvalidQuestion", false), ("InvalidText", false), ("InvalidPaper", false), ("InvalidNumber", false), ("Refused", false), ("Broken", false)]
def tab_InvalidItem : Str → Option Bool := fun x => L_InvalidItem.lookup x
def L_InvalidNumber : List (Str × Bool) := [("StoreError", false), ("InvalidVector", false), ("InvalidItem", false), ("InvalidFilter", false), ("InvalidQuestion", false), ("InvalidText", false), ("InvalidPaper", false), ("InvalidNumber", true), ("Refused", false), ("Broken", false)]
def tab_InvalidNumber : Str → Option Bool := fun x => L_InvalidNumber.lookup x
def L_InvalidPaper : List (Str × Bool) := [("StoreError", false), ("InvalidVector", false), ("InvalidItem", false), ("InvalidFilter", false), ("InvalidQuestion", false), ("InvalidText", false), ("InvalidPaper", true), ("InvalidNumber", false), ("Refused", false), ("Broken", false)]
def tab_InvalidPaper : Str → Option Bool := fun x => L_InvalidPaper.lookup x
def L_InvalidQuestion : List (Str × Bool) := [("StoreError", false), ("InvalidVector", false), ("InvalidItem", false), ("InvalidFilter", false), ("InvalidQuestion", true), ("InvalidText", false), ("InvalidPaper", false), ("InvalidNumber", false), ("Refused", false), ("Broken", false)]
def tab_InvalidQuestion : Str → Option Bool := fun x => L_InvalidQuestion.lookup x
def L_InvalidText : List (Str × Bool) := [("StoreError", false), ("InvalidVector", false), ("InvalidItem", false), ("InvalidFilter", false), ("InvalidQuestion", false), ("InvalidText", true), ("InvalidPaper", false), ("InvalidNumber", false), ("Refused", false), ("Broken", false)]
def tab_InvalidText : Str → Option Bool := fun x => L_InvalidText.lookup x
def L_InvalidVector : List (Str × Bool) := [("StoreError", false), ("InvalidVector", true), ("InvalidItem", false), ("InvalidFilter", false), ("InvalidQuestion", false), ("InvalidText", false), ("InvalidPaper", false), ("InvalidNumber", false), ("Refused", false), ("Broken", false)]
def tab_InvalidVector : Str → Option Bool := fun x => L_InvalidVector.lookup x
theorem in_InvalidVector {y : Str} {b : Bool} (h : tab_InvalidVector y = some b) : y ∈ errNames := tab_in h (by decide +kernel)
def L_Refused : List (Str × Bool) := [("StoreError", false), ("InvalidVector", false), ("InvalidItem", false), ("InvalidFilter", false), ("InvalidQuestion", false), ("InvalidText", false), ("InvalidPaper", false), ("InvalidNumber", false), ("Refused", true), ("Broken", false)]
def tab_Refused : Str → Option Bool := fun x => L_Refused.lookup x
def L_StoreError : List (Str × Bool) := [("StoreError", true), ("InvalidVector", true), ("InvalidItem", true), ("InvalidFilter", true), ("InvalidQuestion", true), ("InvalidText", true), ("InvalidPaper", true), ("InvalidNumber", true), ("Refused", true), ("Broken", true)]
def tab_StoreError : Str → Option Bool := fun x => L_StoreError.lookup x
structure Txt (K : PySem.W.Frag) (mg : Str → Option Value) (aKINDS : Addr) : Prop where
  z_ValueError : mg "ValueError" = none
  z_abs : mg "abs" = none
  z_all : mg "all" = none
  z_bool : mg "bool" = none
  z_enumerate : mg "enumerate" = none
  z_int : mg "int" = none
  z_isinstance : mg "isinstance" = none
  z_len : mg "len" = none
  z_list : mg "list" = none
  z_range : mg "range" = none
  z_repr : mg "repr" = none
  z_str : mg "str" = none
  z_tuple : mg "tuple" = none
  ef : ∀ y C, ClsAt K y C → y ∈ errNames → ErrF K C
  nf_at : ∀ y C, ClsAt K y C → y ∈ errNames → PySem.W.findIn K (.ref C) "at" = some none
  nf_line : ∀ y C, ClsAt K y C → y ∈ errNames → PySem.W.findIn K (.ref C) "line" = some none
  nf_word : ∀ y C, ClsAt K y C → y ∈ errNames → PySem.W.findIn K (.ref C) "word" = some none
  isVE : ∀ y C, ClsAt K y C → y ∈ errNames → PySem.W.kitOne K (.ref C) (.type "ValueError") = some true
  hit_InvalidVector : ∃ c : Addr, mg "InvalidVector" = some (.ref c) ∧ Hits K (.ref c) tab_InvalidVector
  is_Broken : ∃ c : Addr, mg "Broken" = some (.ref c) ∧ ∀ y C b, ClsAt K y C → tab_Broken y = some b → PySem.W.kitOne K (.ref C) (.ref c) = some b
  is_InvalidFilter : ∃ c : Addr, mg "InvalidFilter" = some (.ref c) ∧ ∀ y C b, ClsAt K y C → tab_InvalidFilter y = some b → PySem.W.kitOne K (.ref C) (.ref c) = some b
  is_InvalidItem : ∃ c : Addr, mg "InvalidItem" = some (.ref c) ∧ ∀ y C b, ClsAt K y C → tab_InvalidItem y = some b → PySem.W.kitOne K (.ref C) (.ref c) = some b
  is_InvalidNumber : ∃ c : Addr, mg "InvalidNumber" = some (.ref c) ∧ ∀ y C b, ClsAt K y C → tab_InvalidNumber y = some b → PySem.W.kitOne K (.ref C) (.ref c) = some b
  is_InvalidPaper : ∃ c : Addr, mg "InvalidPaper" = some (.ref c) ∧ ∀ y C b, ClsAt K y C → tab_InvalidPaper y = some b → PySem.W.kitOne K (.ref C) (.ref c) = some b
  is_InvalidQuestion : ∃ c : Addr, mg "InvalidQuestion" = some (.ref c) ∧ ∀ y C b, ClsAt K y C → tab_InvalidQuestion y = some b → PySem.W.kitOne K (.ref C) (.ref c) = some b
  is_InvalidText : ∃ c : Addr, mg "InvalidText" = some (.ref c) ∧ ∀ y C b, ClsAt K y C → tab_InvalidText y = some b → PySem.W.kitOne K (.ref C) (.ref c) = some b
  is_InvalidVector : ∃ c : Addr, mg "InvalidVector" = some (.ref c) ∧ ∀ y C b, ClsAt K y C → tab_InvalidVector y = some b → PySem.W.kitOne K (.ref C) (.ref c) = some b
  is_Refused : ∃ c : Addr, mg "Refused" = some (.ref c) ∧ ∀ y C b, ClsAt K y C → tab_Refused y = some b → PySem.W.kitOne K (.ref C) (.ref c) = some b
  is_StoreError : ∃ c : Addr, mg "StoreError" = some (.ref c) ∧ ∀ y C b, ClsAt K y C → tab_StoreError y = some b → PySem.W.kitOne K (.ref C) (.ref c) = some b
  m_KINDS : mg "KINDS" = some (.ref aKINDS)
  r_KINDS : ∀ H : Hp, Rep K H (.ref aKINDS) c_KINDS
/-! ### contracts -/
def firstBad : List D → Nat → Option Nat
  | [], _ => none
  | e :: es, i => if intB e = true then firstBad es (i + 1) else some i
/-- where a value is no vector of n integers -/
def vdue (d : D) (n : Int) : Option Int := match d with
  | .tup es => if (es.length : Int) = n then (firstBad es 0).map fun i : Nat => (i : Int) else some (-1)
  | _ => some (-1)
def optI : Option Int → D
  | some i => .int i
  | none => .non
def heardD : Option Int → D
  | some i => .tup [.str "wrong", .int i]
  | none => .tup [.str "fine"]
def shO (M : Mp) (d : D) : Prop := ∃ k : Nat, k ≤ 60 ∧ shw k (res M d) ∧ cost (res M d) ≤ 16000000
def kindB : D → Bool
  | .str x => decide (x = "square" ∨ x = "sum" ∨ x = "most" ∨ x = "unlike")
  | _ => false
def F_is_int : Fs := fun ds M Q _ => ∃ (d : D), ds = [d] ∧ tyOk M d ∧ Q (.bl (intB d)) M
def F_is_tuple_of : Fs := fun ds M Q _ => ∃ (d : D) (n : Int), ds = [d, .int n] ∧ tyOk M d ∧ Q (.bl (tupB d n)) M
def F_is_vector : Fs := fun ds M Q _ => ∃ (d : D) (n : Int), ds = [d, .int n] ∧ okD M 1 d ∧ Q (.bl (vecB d n)) M
def F_check_vector : Fs := fun ds M Q R => ∃ (d : D) (n : Int), ds = [d, .int n] ∧ okD M 1 d ∧ (match vdue d n with | none => Q .non M | some i => R "InvalidVector" (["at"], [.int i]) M)
def F_is_kind : Fs := fun ds M Q _ => ∃ d : D, ds = [d] ∧ tyOk M d ∧ (∀ x, d = .str x → PySem.PyData.strOk x = true) ∧ Q (.bl (kindB d)) M
def F__law_heap : Fs := fun ds M Q _ => ∃ ns : List Int, ds = [.lst (ns.map .int)] ∧ ns.length ≤ 63 ∧ ∀ (M' : Mp) (a a0 : Addr), M' a = some (.drw a0) → Up M M' → Q (.tok a) M'
abbrev F__law_draw : Fs := drawF
abbrev F__law_pick : Fs := pickF
def F__law_heard : Fs := fun ds M Q _ => ∃ (d : D) (n : Int), ds = [d, .int n] ∧ okD M 1 d ∧ Q (heardD (vdue d n)) M
def F__law_right : Fs := fun ds M Q _ => ∃ (d : D) (n : Int), ds = [d, .int n, optI (vdue d n)] ∧ okD M 1 d ∧ shO M d ∧ Q (.bl true) M
def F__law_spoilt_right : Fs := fun ds M Q _ => ∃ (a a0 : Addr) (p : Nat) (v : List Int), ds = [.tok a, vec v] ∧ M a = some (.drw a0) ∧ 1 ≤ p ∧ p ≤ 8 ∧ vk p 10000 v ∧ ∀ M', Up M M' → Q (.bl true) M'
def F__law_errors_right : Fs := fun ds M Q _ => ∃ (a a0 : Addr), ds = [.tok a] ∧ M a = some (.drw a0) ∧ ∀ M', Up M M' → Q (.bl true) M'
def F_law : Fs := fun ds M Q _ => ∃ ns : List Int, ds = [.lst (ns.map .int)] ∧ ns.length ≤ 63 ∧ ∀ M', Q (.bl true) M'
theorem ini_InvalidVector {P : Program} {w : World} {K : PySem.W.Frag} {mg : Str → Option Value} {base : Heap} {fI : Addr} {fd : FuncData} (Fn : Fun K "__init__" "InvalidVector.__init__" i_InvalidVector fI fd) : FnOk P w K mg base (L2.CX P w) 1 fI fd ["self", "at"] (spI K ["at"]) := by
  refine Fn.okX (N := ["self", "at"]) ⟨rfl, rfl, rfl, by decide +kernel, rfl, by decide +kernel, by decide +kernel⟩ (fun vs H Q E h => ?_) fun cdv A outer s H vs Q E hr h => ?_
  · obtain ⟨a, C, ys, rfl, l, _⟩ := h
    rw [List.length_cons, l]
    rfl
  · refine ⟨_, pss_one (ps_ost (de_var 0).pe (de_var 1).pe), ?_⟩
    obtain ⟨a, C, ys, rfl, l, T, hno, ha, q⟩ := h
    match ys, l with
    | [v], _ => exact ⟨v, rfl, .ref a, rfl, a, C, rfl, T, hno _ List.mem_cons_self, .inl ⟨ha, fun dx h1 h2 => q dx h1 h2⟩⟩
theorem ini_InvalidItem {P : Program} {w : World} {K : PySem.W.Frag} {mg : Str → Option Value} {base : Heap} {fI : Addr} {fd : FuncData} (Fn : Fun K "__init__" "InvalidItem.__init__" i_InvalidItem fI fd) : FnOk P w K mg base (L2.CX P w) 1 fI fd ["self", "at"] (spI K ["at"]) := by
  refine Fn.okX (N := ["self", "at"]) ⟨rfl, rfl, rfl, by decide +kernel, rfl, by decide +kernel, by decide +kernel⟩ (fun vs H Q E h => ?_) fun cdv A outer s H vs Q E hr h => ?_
  · obtain ⟨a, C, ys, rfl, l, _⟩ := h
    rw [List.length_cons, l]
    rfl
  · refine ⟨_, pss_one (ps_ost (de_var 0).pe (de_var 1).pe), ?_⟩
    obtain ⟨a, C, ys, rfl, l, T, hno, ha, q⟩ := h
    match ys, l with
    | [v], _ => exact ⟨v, rfl, .ref a, rfl, a, C, rfl, T, hno _ List.mem_cons_self, .inl ⟨ha, fun dx h1 h2 => q dx h1 h2⟩⟩
theorem ini_InvalidFilter {P : Program} {w : World} {K : PySem.W.Frag} {mg : Str → Option Value} {base : Heap} {fI : Addr} {fd : FuncData} (Fn : Fun K "__init__" "InvalidFilter.__init__" i_InvalidFilter fI fd) : FnOk P w K mg base (L2.CX P w) 1 fI fd ["self", "at"] (spI K ["at"]) := by
  refine Fn.okX (N := ["self", "at"]) ⟨rfl, rfl, rfl, by decide +kernel, rfl, by decide +kernel, by decide +kernel⟩ (fun vs H Q E h => ?_) fun cdv A outer s H vs Q E hr h => ?_
  · obtain ⟨a, C, ys, rfl, l, _⟩ := h
    rw [List.length_cons, l]
    rfl
  · refine ⟨_, pss_one (ps_ost (de_var 0).pe (de_var 1).pe), ?_⟩
    obtain ⟨a, C, ys, rfl, l, T, hno, ha, q⟩ := h
    match ys, l with
    | [v], _ => exact ⟨v, rfl, .ref a, rfl, a, C, rfl, T, hno _ List.mem_cons_self, .inl ⟨ha, fun dx h1 h2 => q dx h1 h2⟩⟩
theorem ini_InvalidQuestion {P : Program} {w : World} {K : PySem.W.Frag} {mg : Str → Option Value} {base : Heap} {fI : Addr} {fd : FuncData} (Fn : Fun K "__init__" "InvalidQuestion.__init__" i_InvalidQuestion fI fd) : FnOk P w K mg base (L2.CX P w) 1 fI fd ["self", "at"] (spI K ["at"]) := by
  refine Fn.okX (N := ["self", "at"]) ⟨rfl, rfl, rfl, by decide +kernel, rfl, by decide +kernel, by decide +kernel⟩ (fun vs H Q E h => ?_) fun cdv A outer s H vs Q E hr h => ?_
  · obtain ⟨a, C, ys, rfl, l, _⟩ := h
    rw [List.length_cons, l]
    rfl
  · refine ⟨_, pss_one (ps_ost (de_var 0).pe (de_var 1).pe), ?_⟩
    obtain ⟨a, C, ys, rfl, l, T, hno, ha, q⟩ := h
    match ys, l with
    | [v], _ => exact ⟨v, rfl, .ref a, rfl, a, C, rfl, T, hno _ List.mem_cons_self, .inl ⟨ha, fun dx h1 h2 => q dx h1 h2⟩⟩
theorem ini_InvalidPaper {P : Program} {w : World} {K : PySem.W.Frag} {mg : Str → Option Value} {base : Heap} {fI : Addr} {fd : FuncData} (Fn : Fun K "__init__" "InvalidPaper.__init__" i_InvalidPaper fI fd) : FnOk P w K mg base (L2.CX P w) 1 fI fd ["self", "at"] (spI K ["at"]) := by
  refine Fn.okX (N := ["self", "at"]) ⟨rfl, rfl, rfl, by decide +kernel, rfl, by decide +kernel, by decide +kernel⟩ (fun vs H Q E h => ?_) fun cdv A outer s H vs Q E hr h => ?_
  · obtain ⟨a, C, ys, rfl, l, _⟩ := h
    rw [List.length_cons, l]
    rfl
  · refine ⟨_, pss_one (ps_ost (de_var 0).pe (de_var 1).pe), ?_⟩
    obtain ⟨a, C, ys, rfl, l, T, hno, ha, q⟩ := h
    match ys, l with
    | [v], _ => exact ⟨v, rfl, .ref a, rfl, a, C, rfl, T, hno _ List.mem_cons_self, .inl ⟨ha, fun dx h1 h2 => q dx h1 h2⟩⟩
theorem ini_InvalidNumber {P : Program} {w : World} {K : PySem.W.Frag} {mg : Str → Option Value} {base : Heap} {fI : Addr} {fd : FuncData} (Fn : Fun K "__init__" "InvalidNumber.__init__" i_InvalidNumber fI fd) : FnOk P w K mg base (L2.CX P w) 1 fI fd ["self", "word"] (spI K ["word"]) := by
  refine Fn.okX (N := ["self", "word"]) ⟨rfl, rfl, rfl, by decide +kernel, rfl, by decide +kernel, by decide +kernel⟩ (fun vs H Q E h => ?_) fun cdv A outer s H vs Q E hr h => ?_
  · obtain ⟨a, C, ys, rfl, l, _⟩ := h
    rw [List.length_cons, l]
    rfl
  · refine ⟨_, pss_one (ps_ost (de_var 0).pe (de_var 1).pe), ?_⟩
    obtain ⟨a, C, ys, rfl, l, T, hno, ha, q⟩ := h
    match ys, l with
    | [v], _ => exact ⟨v, rfl, .ref a, rfl, a, C, rfl, T, hno _ List.mem_cons_self, .inl ⟨ha, fun dx h1 h2 => q dx h1 h2⟩⟩
theorem ini_Refused {P : Program} {w : World} {K : PySem.W.Frag} {mg : Str → Option Value} {base : Heap} {fI : Addr} {fd : FuncData} (Fn : Fun K "__init__" "Refused.__init__" i_Refused fI fd) : FnOk P w K mg base (L2.CX P w) 1 fI fd ["self", "word"] (spI K ["word"]) := by
  refine Fn.okX (N := ["self", "word"]) ⟨rfl, rfl, rfl, by decide +kernel, rfl, by decide +kernel, by decide +kernel⟩ (fun vs H Q E h => ?_) fun cdv A outer s H vs Q E hr h => ?_
  · obtain ⟨a, C, ys, rfl, l, _⟩ := h
    rw [List.length_cons, l]
    rfl
  · refine ⟨_, pss_one (ps_ost (de_var 0).pe (de_var 1).pe), ?_⟩
    obtain ⟨a, C, ys, rfl, l, T, hno, ha, q⟩ := h
    match ys, l with
    | [v], _ => exact ⟨v, rfl, .ref a, rfl, a, C, rfl, T, hno _ List.mem_cons_self, .inl ⟨ha, fun dx h1 h2 => q dx h1 h2⟩⟩
theorem ini_Broken {P : Program} {w : World} {K : PySem.W.Frag} {mg : Str → Option Value} {base : Heap} {fI : Addr} {fd : FuncData} (Fn : Fun K "__init__" "Broken.__init__" i_Broken fI fd) : FnOk P w K mg base (L2.CX P w) 1 fI fd ["self", "word"] (spI K ["word"]) := by
  refine Fn.okX (N := ["self", "word"]) ⟨rfl, rfl, rfl, by decide +kernel, rfl, by decide +kernel, by decide +kernel⟩ (fun vs H Q E h => ?_) fun cdv A outer s H vs Q E hr h => ?_
  · obtain ⟨a, C, ys, rfl, l, _⟩ := h
    rw [List.length_cons, l]
    rfl
  · refine ⟨_, pss_one (ps_ost (de_var 0).pe (de_var 1).pe), ?_⟩
    obtain ⟨a, C, ys, rfl, l, T, hno, ha, q⟩ := h
    match ys, l with
    | [v], _ => exact ⟨v, rfl, .ref a, rfl, a, C, rfl, T, hno _ List.mem_cons_self, .inl ⟨ha, fun dx h1 h2 => q dx h1 h2⟩⟩
theorem ini_InvalidText {P : Program} {w : World} {K : PySem.W.Frag} {mg : Str → Option Value} {base : Heap} {fI : Addr} {fd : FuncData} (Fn : Fun K "__init__" "InvalidText.__init__" i_InvalidText fI fd) : FnOk P w K mg base (L2.CX P w) 1 fI fd ["self", "line", "at"] (spI K ["line", "at"]) := by
  refine Fn.okX (N := ["self", "line", "at"]) ⟨rfl, rfl, rfl, by decide +kernel, rfl, by decide +kernel, by decide +kernel⟩ (fun vs H Q E h => ?_) fun cdv A outer s H vs Q E hr h => ?_
  · obtain ⟨a, C, ys, rfl, l, _⟩ := h
    rw [List.length_cons, l]
    rfl
  · refine ⟨_, pss_cons (ps_ost (de_var 0).pe (de_var 1).pe) (pss_one (ps_ost (de_var 0).pe (de_var 2).pe)), ?_⟩
    obtain ⟨a, C, ys, rfl, l, T, hno, ha, q⟩ := h
    match ys, l with
    | [v, v2], _ =>
      refine ⟨v, rfl, .ref a, rfl, a, C, rfl, T, hno _ List.mem_cons_self, .inl ⟨ha, fun dx h1 h2 => ?_⟩⟩
      refine ⟨v2, rfl, .ref a, rfl, a, C, rfl, T, hno _ (List.mem_cons_of_mem _ List.mem_cons_self), .inr ⟨dx, _, upd_same, by rw [upd_ne h2, upd_same], by simp, ?_⟩⟩
      have z := q dx h1 h2
      refine (congrArg (Q .non) (funext fun b => ?_)).mp z
      by_cases hb : b = dx
      · subst hb
        rw [upd_ne h2, upd_same, upd_same]
        rfl
      · rw [upd_ne hb]
        by_cases hb2 : b = a
        · subst hb2
          rw [upd_same, upd_same]
        · rw [upd_ne hb2, upd_ne hb, upd_ne hb2, upd_ne hb]
section
variable {P : Program} {w : World} {K : PySem.W.Frag} {mg : Str → Option Value} {base : Heap} {aKINDS : Addr}
theorem sc_is_int : FnScope ["value"] ["value"] (defScope s_is_int) := ⟨rfl, rfl, rfl, by decide +kernel, rfl, by decide +kernel, by decide +kernel⟩
abbrev W_is_int : WS := (wRet (wAndV (wCB fIsi (wCons (wVar 0) (wCons (wC (.ty "int")) wNil))) (wNotV (wCB fIsi (wCons (wVar 0) (wCons (wC (.ty "bool")) wNil))))))
theorem dv_is_int {f : Addr} (T : Txt K mg aKINDS) (cdv : Value) (A : Around) (outer : List Env) (s : Shared) (H : Hp) (E : XK) (gd : A.guards = some []) (hr : Room 0 (A.deeper (envOfC "is_int" (defScope s_is_int) s.heap.objs.size f cdv))) :
    ∃ t, DSs (cxOf (L2.CX P w) P w K mg base ["value"] "is_int" (defScope s_is_int) f cdv A outer s H E) (lw E) (defBody s_is_int) t W_is_int := by
  exact ⟨_, (dss_one (ds_ret (de_and (de_callB call_isi sim_isi T.z_isinstance (show bootBuiltins "isinstance" = some (.builtin "isinstance") from rfl) (da_cons (de_var 0) (da_cons (de_bty T.z_int rfl) da_nil))) (de_one (de_not (de_callB call_isi sim_isi T.z_isinstance (show bootBuiltins "isinstance" = some (.builtin "isinstance") from rfl) (da_cons (de_var 0) (da_cons (de_bty T.z_bool rfl) da_nil))))))))⟩
theorem ok_is_int {f : Addr} {fd : FuncData} (Fn : Fun K "is_int" "is_int" s_is_int f fd) (T : Txt K mg aKINDS) (len : ∀ ds M Q E, F_is_int ds M Q E → ds.length = 1)
    (body : ∀ ds M Q R, F_is_int ds M Q R → W_is_int { nx := fun _ M' => Q .non M', rt := Q, xr := lx R } (startE 1 ds) M) : FnG P w K mg base 1 f fd ["value"] (lift K F_is_int) :=
  ok_fn Fn sc_is_int len fun cdv A outer s H E gd hr => (dv_is_int T cdv A outer s H E gd hr).elim fun t ht => ⟨t, _, ht, body⟩
theorem sc_is_tuple_of : FnScope ["value", "many"] ["value", "many"] (defScope s_is_tuple_of) := ⟨rfl, rfl, rfl, by decide +kernel, rfl, by decide +kernel, by decide +kernel⟩
abbrev W_is_tuple_of : WS := (wRet (wAndV (wCB fIsi (wCons (wVar 0) (wCons (wC (.ty "tuple")) wNil))) (wOp (eqV false) (wCB fLen (wCons (wVar 0) wNil)) (wVar 1))))
theorem dv_is_tuple_of {f : Addr} (T : Txt K mg aKINDS) (cdv : Value) (A : Around) (outer : List Env) (s : Shared) (H : Hp) (E : XK) (gd : A.guards = some []) (hr : Room 0 (A.deeper (envOfC "is_tuple_of" (defScope s_is_tuple_of) s.heap.objs.size f cdv))) :
    ∃ t, DSs (cxOf (L2.CX P w) P w K mg base ["value", "many"] "is_tuple_of" (defScope s_is_tuple_of) f cdv A outer s H E) (lw E) (defBody s_is_tuple_of) t W_is_tuple_of := by
  exact ⟨_, (dss_one (ds_ret (de_and (de_callB call_isi sim_isi T.z_isinstance (show bootBuiltins "isinstance" = some (.builtin "isinstance") from rfl) (da_cons (de_var 0) (da_cons (de_bty T.z_tuple rfl) da_nil))) (de_one (de_cmp (op_eqV hr) sim_eqV (de_callB call_lenA sim_len T.z_len (show bootBuiltins "len" = some (.builtin "len") from rfl) (da_cons (de_var 0) da_nil)) (de_var 1))))))⟩
theorem ok_is_tuple_of {f : Addr} {fd : FuncData} (Fn : Fun K "is_tuple_of" "is_tuple_of" s_is_tuple_of f fd) (T : Txt K mg aKINDS) (len : ∀ ds M Q E, F_is_tuple_of ds M Q E → ds.length = 2)
    (body : ∀ ds M Q R, F_is_tuple_of ds M Q R → W_is_tuple_of { nx := fun _ M' => Q .non M', rt := Q, xr := lx R } (startE 2 ds) M) : FnG P w K mg base 1 f fd ["value", "many"] (lift K F_is_tuple_of) :=
  ok_fn Fn sc_is_tuple_of len fun cdv A outer s H E gd hr => (dv_is_tuple_of T cdv A outer s H E gd hr).elim fun t ht => ⟨t, _, ht, body⟩
theorem sc_is_vector : FnScope ["value", "many", "integer"] ["value", "many"] (defScope s_is_vector) := ⟨rfl, rfl, rfl, by decide +kernel, rfl, by decide +kernel, by decide +kernel⟩
abbrev W_is_vector : WS := (wRet (wAndV (wCall F_is_tuple_of (wCons (wVar 0) (wCons (wVar 1) wNil))) (wCB (fBls fun bs => bs.all id) (wCons (wLc (wiSeq (wVar 0)) (wgName 2) wYes (wCall F_is_int (wCons (wVar 2) wNil)) [2]) wNil))))
theorem dv_is_vector {f : Addr} (T : Txt K mg aKINDS) (h_is_int : Has P w K mg base 1 "is_int" s_is_int ["value"] F_is_int) (h_is_tuple_of : Has P w K mg base 1 "is_tuple_of" s_is_tuple_of ["value", "many"] F_is_tuple_of) (cdv : Value) (A : Around) (outer : List Env) (s : Shared) (H : Hp) (E : XK) (gd : A.guards = some []) (hr : Room 1 (A.deeper (envOfC "is_vector" (defScope s_is_vector) s.heap.objs.size f cdv))) :
    ∃ t, DSs (cxOf (L2.CX P w) P w K mg base ["value", "many", "integer"] "is_vector" (defScope s_is_vector) f cdv A outer s H E) (lw E) (defBody s_is_vector) t W_is_vector := by
  exact ⟨_, (dss_one (ds_ret (de_and (de_h h_is_tuple_of (hr.mono (by decide)) gd (da_cons (de_var 0) (da_cons (de_var 1) da_nil))) (de_one (de_callB (cr_all rfl) sim_all T.z_all (show bootBuiltins "all" = some (.builtin "all") from rfl) (da_cons (de_lc (own := [("integer", 2)]) rfl sc_is_vector.nd (di_seq (de_var 0)) (show BlkOk ["value", "many", "integer"] (defScope s_is_vector) _ [("integer", 2)] from ⟨rfl, by decide +kernel, by decide +kernel, by decide +kernel, by decide +kernel⟩) (fun _ _ _ _ _ => (dg_name 2 sc_is_vector.nd)) (fun _ _ _ _ _ => dts_nil) (fun _ _ _ _ _ => (de_h h_is_int (hr.mono (by decide)) gd (da_cons (de_var 2) da_nil))) keep_name) da_nil))))))⟩
theorem ok_is_vector {f : Addr} {fd : FuncData} (Fn : Fun K "is_vector" "is_vector" s_is_vector f fd) (T : Txt K mg aKINDS) (h_is_int : Has P w K mg base 1 "is_int" s_is_int ["value"] F_is_int) (h_is_tuple_of : Has P w K mg base 1 "is_tuple_of" s_is_tuple_of ["value", "many"] F_is_tuple_of) (len : ∀ ds M Q E, F_is_vector ds M Q E → ds.length = 2)
    (body : ∀ ds M Q R, F_is_vector ds M Q R → W_is_vector { nx := fun _ M' => Q .non M', rt := Q, xr := lx R } (startE 3 ds) M) : FnG P w K mg base 2 f fd ["value", "many"] (lift K F_is_vector) :=
  ok_fn Fn sc_is_vector len fun cdv A outer s H E gd hr => (dv_is_vector T h_is_int h_is_tuple_of cdv A outer s H E gd hr).elim fun t ht => ⟨t, _, ht, body⟩
theorem sc_check_vector : FnScope ["value", "many", "at", "integer"] ["value", "many"] (defScope s_check_vector) := ⟨rfl, rfl, rfl, by decide +kernel, rfl, by decide +kernel, by decide +kernel⟩
abbrev W_check_vector : WS := (wSeq (wIfS (wNot (wB (wCall F_is_tuple_of (wCons (wVar 0) (wCons (wVar 1) wNil))))) (wRaise "InvalidVector" ["at"] (wCons (wNeg (wC (.int 1))) wNil)) wNext) (wFor (wiEnum (wCons (wVar 0) wNil)) (wgTup 2 (wgCons (wgName 2) (wgCons (wgName 3) wgNil))) (wIfS (wNot (wB (wCall F_is_int (wCons (wVar 3) wNil)))) (wRaise "InvalidVector" ["at"] (wCons (wVar 2) wNil)) wNext)))
theorem dv_check_vector {f : Addr} (T : Txt K mg aKINDS) (h_is_int : Has P w K mg base 1 "is_int" s_is_int ["value"] F_is_int) (h_is_tuple_of : Has P w K mg base 1 "is_tuple_of" s_is_tuple_of ["value", "many"] F_is_tuple_of) (h_InvalidVector : Err P w K mg base 1 "InvalidVector" ["self", "at"] ["at"]) (cdv : Value) (A : Around) (outer : List Env) (s : Shared) (H : Hp) (E : XK) (gd : A.guards = some []) (hr : Room 2 (A.deeper (envOfC "check_vector" (defScope s_check_vector) s.heap.objs.size f cdv))) :
    ∃ t, DSs (cxOf (L2.CX P w) P w K mg base ["value", "many", "at", "integer"] "check_vector" (defScope s_check_vector) f cdv A outer s H E) (lw E) (defBody s_check_vector) t W_check_vector := by
  exact ⟨_, (dss_cons (ds_if (dt_not (dt_val (de_h h_is_tuple_of (hr.mono (by decide)) gd (da_cons (de_var 0) (da_cons (de_var 1) da_nil))))) (dss_one (Classical.choose_spec (ds_raise h_InvalidVector rfl (hr.mono (by decide)) takes_top (da_cons (de_neg de_int) da_nil)))) dss_nil) (dss_one (ds_for (passes_of rfl) rfl (di_enumT T.z_enumerate (da_cons (de_var 0) da_nil)) (dg_tup rfl (dgs_cons (dg_name 2 sc_check_vector.nd) (dgs_cons (dg_name 3 sc_check_vector.nd) dgs_nil))) (dss_one (ds_if (dt_not (dt_val (de_h h_is_int (hr.mono (by decide)) gd (da_cons (de_var 3) da_nil)))) (dss_one (Classical.choose_spec (ds_raise h_InvalidVector rfl (hr.mono (by decide)) takes_top (da_cons (de_var 2) da_nil)))) dss_nil)))))⟩
theorem ok_check_vector {f : Addr} {fd : FuncData} (Fn : Fun K "check_vector" "check_vector" s_check_vector f fd) (T : Txt K mg aKINDS) (h_is_int : Has P w K mg base 1 "is_int" s_is_int ["value"] F_is_int) (h_is_tuple_of : Has P w K mg base 1 "is_tuple_of" s_is_tuple_of ["value", "many"] F_is_tuple_of) (h_InvalidVector : Err P w K mg base 1 "InvalidVector" ["self", "at"] ["at"]) (len : ∀ ds M Q E, F_check_vector ds M Q E → ds.length = 2)
    (body : ∀ ds M Q R, F_check_vector ds M Q R → W_check_vector { nx := fun _ M' => Q .non M', rt := Q, xr := lx R } (startE 4 ds) M) : FnG P w K mg base 3 f fd ["value", "many"] (lift K F_check_vector) :=
  ok_fn Fn sc_check_vector len fun cdv A outer s H E gd hr => (dv_check_vector T h_is_int h_is_tuple_of h_InvalidVector cdv A outer s H E gd hr).elim fun t ht => ⟨t, _, ht, body⟩
theorem sc_is_kind : FnScope ["value"] ["value"] (defScope s_is_kind) := ⟨rfl, rfl, rfl, by decide +kernel, rfl, by decide +kernel, by decide +kernel⟩
abbrev W_is_kind : WS := (wRet (wAndV (wCB fIsi (wCons (wVar 0) (wCons (wC (.ty "str")) wNil))) (wOp (fInA false) (wVar 0) (wC c_KINDS))))
theorem dv_is_kind {f : Addr} (T : Txt K mg aKINDS) (cdv : Value) (A : Around) (outer : List Env) (s : Shared) (H : Hp) (E : XK) (gd : A.guards = some []) (hr : Room 0 (A.deeper (envOfC "is_kind" (defScope s_is_kind) s.heap.objs.size f cdv))) :
    ∃ t, DSs (cxOf (L2.CX P w) P w K mg base ["value"] "is_kind" (defScope s_is_kind) f cdv A outer s H E) (lw E) (defBody s_is_kind) t W_is_kind := by
  exact ⟨_, (dss_one (ds_ret (de_and (de_callB call_isi sim_isi T.z_isinstance (show bootBuiltins "isinstance" = some (.builtin "isinstance") from rfl) (da_cons (de_var 0) (da_cons (de_bty T.z_str rfl) da_nil))) (de_one (de_cmp (op_inA hr) sim_inA (de_var 0) (de_glob (v := .ref aKINDS) (by rfl) T.m_KINDS rfl T.r_KINDS))))))⟩
theorem ok_is_kind {f : Addr} {fd : FuncData} (Fn : Fun K "is_kind" "is_kind" s_is_kind f fd) (T : Txt K mg aKINDS) (len : ∀ ds M Q E, F_is_kind ds M Q E → ds.length = 1)
    (body : ∀ ds M Q R, F_is_kind ds M Q R → W_is_kind { nx := fun _ M' => Q .non M', rt := Q, xr := lx R } (startE 1 ds) M) : FnG P w K mg base 1 f fd ["value"] (lift K F_is_kind) :=
  ok_fn Fn sc_is_kind len fun cdv A outer s H E gd hr => (dv_is_kind T cdv A outer s H E gd hr).elim fun t ht => ⟨t, _, ht, body⟩
theorem sc__law_heap : FnScope ["script", "cell", "cells", "stir"] ["script"] (defScope s__law_heap) := ⟨rfl, rfl, rfl, by decide +kernel, rfl, by decide +kernel, by decide +kernel⟩
abbrev W__law_heap : WS := (wSeq (wPar 2 3 (wCons (wLc (wiSeq (wSl (wVar 0) wNoP (wPart (wC (.int 60))))) (wgName 1) wYes (wOp addD (wOp (fI CM fun i j => .int (i * j)) (wC (.int 2)) (wCB fAbs (wCons (wVar 1) wNil))) (wCB fInt (wCons (wOp fLt (wVar 1) (wC (.int 0))) wNil))) [1]) (wCons (wC (.int 10267)) wNil))) (wSeq (wFor (wiSeq (wVar 2)) (wgName 1) (wAsg (wOp (fI (fun _ j => 0 < j) fun i j => .int (i % j)) (wCB fInt (wCons (wOp addD (wOp addD (wOp (fI CM fun i j => .int (i * j)) (wVar 3) (wC (.int 69621))) (wOp (fI (fun _ j => 0 < j) fun i j => .int (i % j)) (wCB fInt (wCons (wVar 1) wNil)) (wC (.int 2147483543)))) (wC (.int 29))) wNil)) (wC (.int 2147483647))) (wgName 3))) (wRet (wDrw (wLc (wiSeq (wVar 2)) (wgName 1) (wB (wOp fGe (wVar 1) (wOp (fI CPow fun i j => .int (i ^ j.toNat)) (wC (.int 10)) (wC (.int 18))))) (wVar 1) [1]) 3))))
theorem dv__law_heap {f : Addr} (T : Txt K mg aKINDS) (cdv : Value) (A : Around) (outer : List Env) (s : Shared) (H : Hp) (E : XK) (gd : A.guards = some []) (hr : Room 0 (A.deeper (envOfC "_law_heap" (defScope s__law_heap) s.heap.objs.size f cdv))) :
    ∃ t, DSs (cxOf (L2.CX P w) P w K mg base ["script", "cell", "cells", "stir"] "_law_heap" (defScope s__law_heap) f cdv A outer s H E) (lw E) (defBody s__law_heap) t W__law_heap := by
  exact ⟨_, (dss_cons (ds_par 2 3 rfl sc__law_heap.nd (da_cons (de_lc (own := [("cell", 1)]) rfl sc__law_heap.nd (di_seq (de_slice (de_var 0) do_none (do_some de_int))) (show BlkOk ["script", "cell", "cells", "stir"] (defScope s__law_heap) _ [("cell", 1)] from ⟨rfl, by decide +kernel, by decide +kernel, by decide +kernel, by decide +kernel⟩) (fun _ _ _ _ _ => (dg_name 1 sc__law_heap.nd)) (fun _ _ _ _ _ => dts_nil) (fun _ _ _ _ _ => (de_add (de_mul de_int (de_callB call_abs sim_abs T.z_abs (show bootBuiltins "abs" = some (.builtin "abs") from rfl) (da_cons (de_var 1) da_nil))) (de_callTy call_int1 sim_int T.z_int (show bootBuiltins "int" = some (.type "int") from rfl) (da_cons (de_cmp op_lt sim_lt (de_var 1) de_int) da_nil)))) keep_name) (da_cons de_int da_nil))) (dss_cons (ds_for (passes_of rfl) rfl (di_seq (de_var 2)) (dg_name 1 sc__law_heap.nd) (dss_one (ds_set 3 sc__law_heap.nd (de_mod (de_callTy call_int1 sim_int T.z_int (show bootBuiltins "int" = some (.type "int") from rfl) (da_cons (de_add (de_add (de_mul (de_var 3) de_int) (de_mod (de_callTy call_int1 sim_int T.z_int (show bootBuiltins "int" = some (.type "int") from rfl) (da_cons (de_var 1) da_nil)) de_int)) de_int) da_nil)) de_int)))) (dss_one (ds_ret (de_drw 3 (de_lc (own := [("cell", 1)]) rfl sc__law_heap.nd (di_seq (de_var 2)) (show BlkOk ["script", "cell", "cells", "stir"] (defScope s__law_heap) _ [("cell", 1)] from ⟨rfl, by decide +kernel, by decide +kernel, by decide +kernel, by decide +kernel⟩) (fun _ _ _ _ _ => (dg_name 1 sc__law_heap.nd)) (fun _ _ _ _ _ => (dts_one (dt_cmp op_ge sim_ge (de_var 1) (de_pow de_int de_int)))) (fun _ _ _ _ _ => (de_var 1)) keep_name))))))⟩
theorem ok__law_heap {f : Addr} {fd : FuncData} (Fn : Fun K "_law_heap" "_law_heap" s__law_heap f fd) (T : Txt K mg aKINDS) (len : ∀ ds M Q E, F__law_heap ds M Q E → ds.length = 1)
    (body : ∀ ds M Q R, F__law_heap ds M Q R → W__law_heap { nx := fun _ M' => Q .non M', rt := Q, xr := lx R } (startE 4 ds) M) : FnG P w K mg base 1 f fd ["script"] (lift K F__law_heap) :=
  ok_fn Fn sc__law_heap len fun cdv A outer s H E gd hr => (dv__law_heap T cdv A outer s H E gd hr).elim fun t ht => ⟨t, _, ht, body⟩
theorem sc__law_draw : FnScope ["heap", "many", "rest"] ["heap", "many"] (defScope s__law_draw) := ⟨rfl, rfl, rfl, by decide +kernel, rfl, by decide +kernel, by decide +kernel⟩
theorem sc__law_pick : FnScope ["heap", "some"] ["heap", "some"] (defScope s__law_pick) := ⟨rfl, rfl, rfl, by decide +kernel, rfl, by decide +kernel, by decide +kernel⟩
abbrev W__law_pick : WS := (wRet (wOp ixD (wVar 1) (wCall F__law_draw (wCons (wVar 0) (wCons (wCB fLen (wCons (wVar 1) wNil)) wNil)))))
theorem dv__law_pick {f : Addr} (T : Txt K mg aKINDS) (h__law_draw : Has P w K mg base 1 "_law_draw" s__law_draw ["heap", "many"] F__law_draw) (cdv : Value) (A : Around) (outer : List Env) (s : Shared) (H : Hp) (E : XK) (gd : A.guards = some []) (hr : Room 1 (A.deeper (envOfC "_law_pick" (defScope s__law_pick) s.heap.objs.size f cdv))) :
    ∃ t, DSs (cxOf (L2.CX P w) P w K mg base ["heap", "some"] "_law_pick" (defScope s__law_pick) f cdv A outer s H E) (lw E) (defBody s__law_pick) t W__law_pick := by
  exact ⟨_, (dss_one (ds_ret (de_ix (de_var 1) (de_h h__law_draw (hr.mono (by decide)) gd (da_cons (de_var 0) (da_cons (de_callB call_lenA sim_len T.z_len (show bootBuiltins "len" = some (.builtin "len") from rfl) (da_cons (de_var 1) da_nil)) da_nil))))))⟩
theorem ok__law_pick {f : Addr} {fd : FuncData} (Fn : Fun K "_law_pick" "_law_pick" s__law_pick f fd) (T : Txt K mg aKINDS) (h__law_draw : Has P w K mg base 1 "_law_draw" s__law_draw ["heap", "many"] F__law_draw) (len : ∀ ds M Q E, F__law_pick ds M Q E → ds.length = 2)
    (body : ∀ ds M Q R, F__law_pick ds M Q R → W__law_pick { nx := fun _ M' => Q .non M', rt := Q, xr := lx R } (startE 2 ds) M) : FnG P w K mg base 2 f fd ["heap", "some"] (lift K F__law_pick) :=
  ok_fn Fn sc__law_pick len fun cdv A outer s H E gd hr => (dv__law_pick T h__law_draw cdv A outer s H E gd hr).elim fun t ht => ⟨t, _, ht, body⟩
theorem sc__law_heard : FnScope ["value", "many", "told", "error"] ["value", "many"] (defScope s__law_heard) := ⟨rfl, rfl, rfl, by decide +kernel, rfl, by decide +kernel, by decide +kernel⟩
abbrev W__law_heard : WS := (wSeq (wTryAs 3 tab_InvalidVector (wAsgX (wCallX F_check_vector (wCons (wVar 0) (wCons (wVar 1) wNil))) (wgName 2)) (fun a y dx => (wSeq (wIfS (wOr (wNot (wB (wIsX a y dx tab_StoreError (wVar 3)))) (wOr (wB (wIsX a y dx tab_InvalidItem (wVar 3))) (wB (wCB fIsi (wCons (wXf a y dx "at" (wVar 3)) (wCons (wC (.ty "bool")) wNil)))))) (wRet (wTup (wCons (wC (.str "mixed")) wNil))) wNext) (wRet (wTup (wCons (wC (.str "wrong")) (wCons (wXf a y dx "at" (wVar 3)) wNil))))))) (wRet (wIf (wB (wOp (fIsN false) (wVar 2) (wC .non))) (wTup (wCons (wC (.str "fine")) wNil)) (wTup (wCons (wC (.str "mixed")) wNil)))))
theorem dv__law_heard {f : Addr} (T : Txt K mg aKINDS) (h_check_vector : Has P w K mg base 3 "check_vector" s_check_vector ["value", "many"] F_check_vector) (cdv : Value) (A : Around) (outer : List Env) (s : Shared) (H : Hp) (E : XK) (gd : A.guards = some []) (hr : Room 3 (A.deeper (envOfC "_law_heard" (defScope s__law_heard) s.heap.objs.size f cdv))) :
    ∃ t, DSs (cxOf (L2.CX P w) P w K mg base ["value", "many", "told", "error"] "_law_heard" (defScope s__law_heard) f cdv A outer s H E) (lw E) (defBody s__law_heard) t W__law_heard := by
  obtain ⟨ch_InvalidVector, mh_InvalidVector, hh_InvalidVector⟩ := T.hit_InvalidVector
  obtain ⟨ci_InvalidItem, mi_InvalidItem, hi_InvalidItem⟩ := T.is_InvalidItem
  obtain ⟨ci_StoreError, mi_StoreError, hi_StoreError⟩ := T.is_StoreError
  exact ⟨_, (dss_cons (ds_try_as (i := 3) (hit := tab_InvalidVector) rfl rfl sc__law_heard.nd rfl rfl ⟨rfl, by decide, .inl mh_InvalidVector⟩ takes_top hh_InvalidVector (fun W' pn xe tk pw => (dss_one (ds_setX 2 sc__law_heard.nd (dx_h h_check_vector (hr.mono (by decide)) gd tk (da_cons (de_var 0) (da_cons (de_var 1) da_nil)))))) (fun a oe y C dx pn cx hz hf ca hy => by exact (dss_cons (ds_if (DW.dt (dw_or (dt_not (dt_val (de_isX (v := .ref ci_StoreError) (cv := .ref ci_StoreError) (tab := tab_StoreError) (T.ef y C ca (in_InvalidVector hy)) ca (hi_StoreError y) hz hf (fun u r => r) T.z_isinstance (de_var 3) (pe_glob rfl mi_StoreError rfl)))) (dw_or (dt_val (de_isX (v := .ref ci_InvalidItem) (cv := .ref ci_InvalidItem) (tab := tab_InvalidItem) (T.ef y C ca (in_InvalidVector hy)) ca (hi_InvalidItem y) hz hf (fun u r => r) T.z_isinstance (de_var 3) (pe_glob rfl mi_InvalidItem rfl))) (dw_or1 (dt_val (de_callB call_isi sim_isi T.z_isinstance (show bootBuiltins "isinstance" = some (.builtin "isinstance") from rfl) (da_cons (de_xf (T.ef y C ca (in_InvalidVector hy)) (T.nf_at y C ca (in_InvalidVector hy)) hz hf (de_var 3)) (da_cons (de_bty T.z_bool rfl) da_nil)))))))) (dss_one (ds_ret (de_tup (da_cons de_str da_nil)))) dss_nil) (dss_one (ds_ret (de_tup (da_cons de_str (da_cons (de_xf (T.ef y C ca (in_InvalidVector hy)) (T.nf_at y C ca (in_InvalidVector hy)) hz hf (de_var 3)) da_nil)))))))) (dss_one (ds_ret (de_if (dt_cmp op_isN sim_isN (de_var 2) de_non) (de_tup (da_cons de_str da_nil)) (de_tup (da_cons de_str da_nil))))))⟩
theorem ok__law_heard {f : Addr} {fd : FuncData} (Fn : Fun K "_law_heard" "_law_heard" s__law_heard f fd) (T : Txt K mg aKINDS) (h_check_vector : Has P w K mg base 3 "check_vector" s_check_vector ["value", "many"] F_check_vector) (len : ∀ ds M Q E, F__law_heard ds M Q E → ds.length = 2)
    (body : ∀ ds M Q R, F__law_heard ds M Q R → W__law_heard { nx := fun _ M' => Q .non M', rt := Q, xr := lx R } (startE 4 ds) M) : FnG P w K mg base 4 f fd ["value", "many"] (lift K F__law_heard) :=
  ok_fn Fn sc__law_heard len fun cdv A outer s H E gd hr => (dv__law_heard T h_check_vector cdv A outer s H E gd hr).elim fun t ht => ⟨t, _, ht, body⟩
theorem sc__law_right : FnScope ["value", "many", "due", "kept"] ["value", "many", "due"] (defScope s__law_right) := ⟨rfl, rfl, rfl, by decide +kernel, rfl, by decide +kernel, by decide +kernel⟩
abbrev W__law_right : WS := (wSeq (wAsg (wCB fRepr (wCons (wVar 0) wNil)) (wgName 3)) (wSeq (wIfS (wB (wOp (eqV true) (wCall F__law_heard (wCons (wVar 0) (wCons (wVar 1) wNil))) (wIf (wB (wOp (fIsN false) (wVar 2) (wC .non))) (wTup (wCons (wC (.str "fine")) wNil)) (wTup (wCons (wC (.str "wrong")) (wCons (wVar 2) wNil)))))) (wRet (wC (.bl false))) wNext) (wSeq (wIfS (wOr (wB (wOp (eqV true) (wCB fRepr (wCons (wCall F_is_vector (wCons (wVar 0) (wCons (wVar 1) wNil))) wNil)) (wCB fRepr (wCons (wOp (fIsN false) (wVar 2) (wC .non)) wNil)))) (wB (wOp (eqV true) (wCB fRepr (wCons (wVar 0) wNil)) (wVar 3)))) (wRet (wC (.bl false))) wNext) (wRet (wOp (eqV false) (wCB fRepr (wCons (wCallK 0 2 [1, 0] F_is_vector wNil (wCons (wVar 1) (wCons (wVar 0) wNil))) wNil)) (wCB fRepr (wCons (wOp (fIsN false) (wVar 2) (wC .non)) wNil)))))))
theorem dv__law_right {f : Addr} (T : Txt K mg aKINDS) (h_is_vector : Has P w K mg base 2 "is_vector" s_is_vector ["value", "many"] F_is_vector) (h__law_heard : Has P w K mg base 4 "_law_heard" s__law_heard ["value", "many"] F__law_heard) (cdv : Value) (A : Around) (outer : List Env) (s : Shared) (H : Hp) (E : XK) (gd : A.guards = some []) (hr : Room 4 (A.deeper (envOfC "_law_right" (defScope s__law_right) s.heap.objs.size f cdv))) :
    ∃ t, DSs (cxOf (L2.CX P w) P w K mg base ["value", "many", "due", "kept"] "_law_right" (defScope s__law_right) f cdv A outer s H E) (lw E) (defBody s__law_right) t W__law_right := by
  exact ⟨_, (dss_cons (ds_set 3 sc__law_right.nd (de_callB (call_repr_any hr gd) sim_repr T.z_repr (show bootBuiltins "repr" = some (.builtin "repr") from rfl) (da_cons (de_var 0) da_nil))) (dss_cons (ds_if (dt_cmp (op_neV hr) sim_neV (de_h h__law_heard (hr.mono (by decide)) gd (da_cons (de_var 0) (da_cons (de_var 1) da_nil))) (de_if (dt_cmp op_isN sim_isN (de_var 2) de_non) (de_tup (da_cons de_str da_nil)) (de_tup (da_cons de_str (da_cons (de_var 2) da_nil))))) (dss_one (ds_ret de_bl)) dss_nil) (dss_cons (ds_if (DW.dt (dw_or (dt_cmp (op_neV hr) sim_neV (de_callB (call_repr_any hr gd) sim_repr T.z_repr (show bootBuiltins "repr" = some (.builtin "repr") from rfl) (da_cons (de_h h_is_vector (hr.mono (by decide)) gd (da_cons (de_var 0) (da_cons (de_var 1) da_nil))) da_nil)) (de_callB (call_repr_any hr gd) sim_repr T.z_repr (show bootBuiltins "repr" = some (.builtin "repr") from rfl) (da_cons (de_cmp op_isN sim_isN (de_var 2) de_non) da_nil))) (dw_or1 (dt_cmp (op_neV hr) sim_neV (de_callB (call_repr_any hr gd) sim_repr T.z_repr (show bootBuiltins "repr" = some (.builtin "repr") from rfl) (da_cons (de_var 0) da_nil)) (de_var 3))))) (dss_one (ds_ret de_bl)) dss_nil) (dss_one (ds_ret (de_cmp (op_eqV hr) sim_eqV (de_callB (call_repr_any hr gd) sim_repr T.z_repr (show bootBuiltins "repr" = some (.builtin "repr") from rfl) (da_cons (de_hk0 (ks := ["many", "value"]) (idx := [1, 0]) h_is_vector (hr.mono (by decide)) gd (fun _ _ _ _ _ _ us ws h1 h2 => match us, ws, h1, h2 with | [], [_, _], _, _ => rfl) (dk_cons (de_var 1) (dk_cons (de_var 0) dk_nil))) da_nil)) (de_callB (call_repr_any hr gd) sim_repr T.z_repr (show bootBuiltins "repr" = some (.builtin "repr") from rfl) (da_cons (de_cmp op_isN sim_isN (de_var 2) de_non) da_nil))))))))⟩
theorem ok__law_right {f : Addr} {fd : FuncData} (Fn : Fun K "_law_right" "_law_right" s__law_right f fd) (T : Txt K mg aKINDS) (h_is_vector : Has P w K mg base 2 "is_vector" s_is_vector ["value", "many"] F_is_vector) (h__law_heard : Has P w K mg base 4 "_law_heard" s__law_heard ["value", "many"] F__law_heard) (len : ∀ ds M Q E, F__law_right ds M Q E → ds.length = 3)
    (body : ∀ ds M Q R, F__law_right ds M Q R → W__law_right { nx := fun _ M' => Q .non M', rt := Q, xr := lx R } (startE 4 ds) M) : FnG P w K mg base 5 f fd ["value", "many", "due"] (lift K F__law_right) :=
  ok_fn Fn sc__law_right len fun cdv A outer s H E gd hr => (dv__law_right T h_is_vector h__law_heard cdv A outer s H E gd hr).elim fun t ht => ⟨t, _, ht, body⟩
theorem sc__law_spoilt_right : FnScope ["heap", "vector", "odds", "later", "many", "at", "found"] ["heap", "vector"] (defScope s__law_spoilt_right) := ⟨rfl, rfl, rfl, by decide +kernel, rfl, by decide +kernel, by decide +kernel⟩
abbrev W__law_spoilt_right : WS := (wSeq (wPar 5 6 (wCons (wCall F__law_draw (wCons (wVar 0) (wCons (wCB fLen (wCons (wVar 1) wNil)) wNil))) (wCons (wCB fListM (wCons (wVar 1) wNil)) wNil))) (wSeq (wAsg (wLst (wCons (wC .non) (wCons (wC (.bl true)) (wCons (wC (.bl false)) (wCons (wC (.str "1")) (wCons (wTup (wCons (wC (.int 1)) wNil)) (wCons (wLst (wCons (wC (.int 1)) wNil)) (wCons (wC (.str "")) (wCons wDct0 (wCons (wTup wNil) wNil)))))))))) (wgName 2)) (wSeq (wAsg (wCall F__law_pick (wCons (wVar 0) (wCons (wVar 2) wNil))) (wgSub (wVar 6) (wVar 5))) (wSeq (wAsg (wOp addD (wVar 5) (wCall F__law_draw (wCons (wVar 0) (wCons (wOp (fI0 fun i j => .int (i - j)) (wCB fLen (wCons (wVar 1) wNil)) (wVar 5)) wNil)))) (wgName 3)) (wSeq (wAsg (wCall F__law_pick (wCons (wVar 0) (wCons (wVar 2) wNil))) (wgSub (wVar 6) (wVar 3))) (wSeq (wAsg (wCB fLen (wCons (wVar 1) wNil)) (wgName 4)) (wSeq (wIfS (wOr (wNot (wB (wCall F__law_right (wCons (wCB fTuple (wCons (wVar 6) wNil)) (wCons (wVar 4) (wCons (wVar 5) wNil)))))) (wOr (wNot (wB (wCall F__law_right (wCons (wCB fTuple (wCons (wVar 6) wNil)) (wCons (wOp addD (wVar 4) (wC (.int 1))) (wCons (wNeg (wC (.int 1))) wNil)))))) (wNot (wB (wCall F__law_right (wCons (wVar 6) (wCons (wVar 4) (wCons (wNeg (wC (.int 1))) wNil)))))))) (wRet (wC (.bl false))) wNext) (wRet (wCall F__law_right (wCons (wCB fTuple (wCons (wSl (wVar 6) (wPart (wC (.int 1))) wNoP) wNil)) (wCons (wVar 4) (wCons (wNeg (wC (.int 1))) wNil))))))))))))
theorem dv__law_spoilt_right {f : Addr} (T : Txt K mg aKINDS) (h__law_draw : Has P w K mg base 1 "_law_draw" s__law_draw ["heap", "many"] F__law_draw) (h__law_pick : Has P w K mg base 2 "_law_pick" s__law_pick ["heap", "some"] F__law_pick) (h__law_right : Has P w K mg base 5 "_law_right" s__law_right ["value", "many", "due"] F__law_right) (cdv : Value) (A : Around) (outer : List Env) (s : Shared) (H : Hp) (E : XK) (gd : A.guards = some []) (hr : Room 5 (A.deeper (envOfC "_law_spoilt_right" (defScope s__law_spoilt_right) s.heap.objs.size f cdv))) :
    ∃ t, DSs (cxOf (L2.CX P w) P w K mg base ["heap", "vector", "odds", "later", "many", "at", "found"] "_law_spoilt_right" (defScope s__law_spoilt_right) f cdv A outer s H E) (lw E) (defBody s__law_spoilt_right) t W__law_spoilt_right := by
  exact ⟨_, (dss_cons (ds_par 5 6 rfl sc__law_spoilt_right.nd (da_cons (de_h h__law_draw (hr.mono (by decide)) gd (da_cons (de_var 0) (da_cons (de_callB call_lenA sim_len T.z_len (show bootBuiltins "len" = some (.builtin "len") from rfl) (da_cons (de_var 1) da_nil)) da_nil))) (da_cons (de_callTy call_list_of sim_listM T.z_list (show bootBuiltins "list" = some (.type "list") from rfl) (da_cons (de_var 1) da_nil)) da_nil))) (dss_cons (ds_set 2 sc__law_spoilt_right.nd (de_lst (da_cons de_non (da_cons de_bl (da_cons de_bl (da_cons de_str (da_cons (de_tup (da_cons de_int da_nil)) (da_cons (de_lst (da_cons de_int da_nil)) (da_cons de_str (da_cons de_dct0 (da_cons (de_tup da_nil) da_nil))))))))))) (dss_cons (ds_asg (de_h h__law_pick (hr.mono (by decide)) gd (da_cons (de_var 0) (da_cons (de_var 2) da_nil))) (dg_sub (de_var 6) (de_var 5))) (dss_cons (ds_set 3 sc__law_spoilt_right.nd (de_add (de_var 5) (de_h h__law_draw (hr.mono (by decide)) gd (da_cons (de_var 0) (da_cons (de_sub (de_callB call_lenA sim_len T.z_len (show bootBuiltins "len" = some (.builtin "len") from rfl) (da_cons (de_var 1) da_nil)) (de_var 5)) da_nil))))) (dss_cons (ds_asg (de_h h__law_pick (hr.mono (by decide)) gd (da_cons (de_var 0) (da_cons (de_var 2) da_nil))) (dg_sub (de_var 6) (de_var 3))) (dss_cons (ds_set 4 sc__law_spoilt_right.nd (de_callB call_lenA sim_len T.z_len (show bootBuiltins "len" = some (.builtin "len") from rfl) (da_cons (de_var 1) da_nil))) (dss_cons (ds_if (DW.dt (dw_or (dt_not (dt_val (de_h h__law_right (hr.mono (by decide)) gd (da_cons (de_callTy call_tuple_of sim_tuple T.z_tuple (show bootBuiltins "tuple" = some (.type "tuple") from rfl) (da_cons (de_var 6) da_nil)) (da_cons (de_var 4) (da_cons (de_var 5) da_nil)))))) (dw_or (dt_not (dt_val (de_h h__law_right (hr.mono (by decide)) gd (da_cons (de_callTy call_tuple_of sim_tuple T.z_tuple (show bootBuiltins "tuple" = some (.type "tuple") from rfl) (da_cons (de_var 6) da_nil)) (da_cons (de_add (de_var 4) de_int) (da_cons (de_neg de_int) da_nil)))))) (dw_or1 (dt_not (dt_val (de_h h__law_right (hr.mono (by decide)) gd (da_cons (de_var 6) (da_cons (de_var 4) (da_cons (de_neg de_int) da_nil)))))))))) (dss_one (ds_ret de_bl)) dss_nil) (dss_one (ds_ret (de_h h__law_right (hr.mono (by decide)) gd (da_cons (de_callTy call_tuple_of sim_tuple T.z_tuple (show bootBuiltins "tuple" = some (.type "tuple") from rfl) (da_cons (de_slice (de_var 6) (do_some de_int) do_none) da_nil)) (da_cons (de_var 4) (da_cons (de_neg de_int) da_nil)))))))))))))⟩
theorem ok__law_spoilt_right {f : Addr} {fd : FuncData} (Fn : Fun K "_law_spoilt_right" "_law_spoilt_right" s__law_spoilt_right f fd) (T : Txt K mg aKINDS) (h__law_draw : Has P w K mg base 1 "_law_draw" s__law_draw ["heap", "many"] F__law_draw) (h__law_pick : Has P w K mg base 2 "_law_pick" s__law_pick ["heap", "some"] F__law_pick) (h__law_right : Has P w K mg base 5 "_law_right" s__law_right ["value", "many", "due"] F__law_right) (len : ∀ ds M Q E, F__law_spoilt_right ds M Q E → ds.length = 2)
    (body : ∀ ds M Q R, F__law_spoilt_right ds M Q R → W__law_spoilt_right { nx := fun _ M' => Q .non M', rt := Q, xr := lx R } (startE 7 ds) M) : FnG P w K mg base 6 f fd ["heap", "vector"] (lift K F__law_spoilt_right) :=
  ok_fn Fn sc__law_spoilt_right len fun cdv A outer s H E gd hr => (dv__law_spoilt_right T h__law_draw h__law_pick h__law_right cdv A outer s H E gd hr).elim fun t ht => ⟨t, _, ht, body⟩
theorem sc__law_errors_right : FnScope ["heap", "some", "made", "error", "worded", "text", "own", "turn", "told"] ["heap"] (defScope s__law_errors_right) := ⟨rfl, rfl, rfl, by decide +kernel, rfl, by decide +kernel, by decide +kernel⟩
abbrev W__law_errors_right : WS := (wSeq (wAsg (wLc (wiRange1 (wCons (wC (.int 2)) wNil)) (wgName 7) wYes (wCall F__law_pick (wCons (wVar 0) (wCons (wLst (wCons (wC (.int 3)) (wCons (wNeg (wC (.int 1))) (wCons (wC .non) (wCons (wC (.str "word")) (wCons (wTup (wCons (wC (.int 1)) (wCons (wC (.int 2)) wNil))) (wCons (wLst wNil) (wCons (wC (.bl true)) wNil)))))))) wNil))) [7]) (wgName 1)) (wSeq (wAsg (wLst (wCons (wErr "InvalidVector" ["at"] (wCons (wOp ixD (wVar 1) (wC (.int 0))) wNil)) (wCons (wErrK "InvalidItem" ["at"] [0, 1] 1 (wCons (wOp ixD (wVar 1) (wC (.int 0))) wNil)) (wCons (wErr "InvalidFilter" ["at"] (wCons (wOp ixD (wVar 1) (wC (.int 0))) wNil)) (wCons (wErrK "InvalidQuestion" ["at"] [0, 1] 1 (wCons (wOp ixD (wVar 1) (wC (.int 0))) wNil)) (wCons (wErr "InvalidPaper" ["at"] (wCons (wOp ixD (wVar 1) (wC (.int 0))) wNil)) wNil)))))) (wgName 2)) (wSeq (wFor (wiSeq (wVar 2)) (wgName 3) (wIfS (wB (wOp (eqV true) (wCB fRepr (wCons (wEf "at" errNames (wVar 3)) wNil)) (wCB fRepr (wCons (wOp ixD (wVar 1) (wC (.int 0))) wNil)))) (wRet (wC (.bl false))) wNext)) (wSeq (wAsg (wLst (wCons (wErr "InvalidNumber" ["word"] (wCons (wOp ixD (wVar 1) (wC (.int 1))) wNil)) (wCons (wErrK "Refused" ["word"] [0, 1] 1 (wCons (wOp ixD (wVar 1) (wC (.int 1))) wNil)) (wCons (wErr "Broken" ["word"] (wCons (wOp ixD (wVar 1) (wC (.int 1))) wNil)) wNil)))) (wgName 4)) (wSeq (wFor (wiSeq (wVar 4)) (wgName 3) (wIfS (wB (wOp (eqV true) (wCB fRepr (wCons (wEf "word" errNames (wVar 3)) wNil)) (wCB fRepr (wCons (wOp ixD (wVar 1) (wC (.int 1))) wNil)))) (wRet (wC (.bl false))) wNext)) (wSeq (wAsg (wErrK "InvalidText" ["line", "at"] [0, 2, 1] 2 (wCons (wOp ixD (wVar 1) (wC (.int 1))) (wCons (wOp ixD (wVar 1) (wC (.int 0))) wNil))) (wgName 5)) (wSeq (wIfS (wOr (wB (wOp (eqV true) (wCB fRepr (wCons (wLst (wCons (wEf "line" errNames (wVar 5)) (wCons (wEf "at" errNames (wVar 5)) wNil))) wNil)) (wCB fRepr (wCons (wVar 1) wNil)))) (wB (wOp (eqV true) (wCB fRepr (wCons (wEf "line" errNames (wErr "InvalidText" ["line", "at"] (wCons (wOp ixD (wVar 1) (wC (.int 0))) (wCons (wOp ixD (wVar 1) (wC (.int 1))) wNil)))) wNil)) (wCB fRepr (wCons (wOp ixD (wVar 1) (wC (.int 0))) wNil))))) (wRet (wC (.bl false))) wNext) (wSeq (wFor (wiSeq (wOp addD (wOp addD (wVar 2) (wVar 4)) (wLst (wCons (wVar 5) wNil)))) (wgName 3) (wSeq (wAsg (wLst (wCons (wIsEv errNames tab_InvalidVector (wVar 3)) (wCons (wIsEv errNames tab_InvalidItem (wVar 3)) (wCons (wIsEv errNames tab_InvalidFilter (wVar 3)) (wCons (wIsEv errNames tab_InvalidQuestion (wVar 3)) wNil))))) (wgName 6)) (wSeq (wAsg (wOp catM (wVar 6) (wLst (wCons (wIsEv errNames tab_InvalidPaper (wVar 3)) (wCons (wIsEv errNames tab_InvalidNumber (wVar 3)) (wCons (wIsEv errNames tab_Refused (wVar 3)) (wCons (wIsEv errNames tab_Broken (wVar 3)) wNil)))))) (wgName 6)) (wSeq (wDrop (wApp (wVar 6) (wCons (wIsEv errNames tab_InvalidText (wVar 3)) wNil))) (wIfS (wOr (wB (wOp (eqV true) (wCB fLen (wCons (wLc (wiSeq (wVar 6)) (wgName 8) (wB (wVar 8)) (wC (.int 1)) [8]) wNil)) (wC (.int 1)))) (wOr (wNot (wB (wIsEv errNames tab_StoreError (wVar 3)))) (wNot (wB (wIsEv errNames (fun _ => some true) (wVar 3)))))) (wRet (wC (.bl false))) wNext))))) (wRet (wC (.bl true)))))))))))
theorem dv__law_errors_right {f : Addr} (T : Txt K mg aKINDS) (h__law_pick : Has P w K mg base 2 "_law_pick" s__law_pick ["heap", "some"] F__law_pick) (v_Broken : ErrV P w K mg base 1 "Broken" "Broken.__init__" i_Broken ["self", "word"] ["word"]) (v_InvalidFilter : ErrV P w K mg base 1 "InvalidFilter" "InvalidFilter.__init__" i_InvalidFilter ["self", "at"] ["at"]) (v_InvalidItem : ErrV P w K mg base 1 "InvalidItem" "InvalidItem.__init__" i_InvalidItem ["self", "at"] ["at"]) (v_InvalidNumber : ErrV P w K mg base 1 "InvalidNumber" "InvalidNumber.__init__" i_InvalidNumber ["self", "word"] ["word"]) (v_InvalidPaper : ErrV P w K mg base 1 "InvalidPaper" "InvalidPaper.__init__" i_InvalidPaper ["self", "at"] ["at"]) (v_InvalidQuestion : ErrV P w K mg base 1 "InvalidQuestion" "InvalidQuestion.__init__" i_InvalidQuestion ["self", "at"] ["at"]) (v_InvalidText : ErrV P w K mg base 1 "InvalidText" "InvalidText.__init__" i_InvalidText ["self", "line", "at"] ["line", "at"]) (v_InvalidVector : ErrV P w K mg base 1 "InvalidVector" "InvalidVector.__init__" i_InvalidVector ["self", "at"] ["at"]) (v_Refused : ErrV P w K mg base 1 "Refused" "Refused.__init__" i_Refused ["self", "word"] ["word"]) (cdv : Value) (A : Around) (outer : List Env) (s : Shared) (H : Hp) (E : XK) (gd : A.guards = some []) (hr : Room 2 (A.deeper (envOfC "_law_errors_right" (defScope s__law_errors_right) s.heap.objs.size f cdv))) :
    ∃ t, DSs (cxOf (L2.CX P w) P w K mg base ["heap", "some", "made", "error", "worded", "text", "own", "turn", "told"] "_law_errors_right" (defScope s__law_errors_right) f cdv A outer s H E) (lw E) (defBody s__law_errors_right) t W__law_errors_right := by
  obtain ⟨ci_Broken, mi_Broken, hi_Broken⟩ := T.is_Broken
  obtain ⟨ci_InvalidFilter, mi_InvalidFilter, hi_InvalidFilter⟩ := T.is_InvalidFilter
  obtain ⟨ci_InvalidItem, mi_InvalidItem, hi_InvalidItem⟩ := T.is_InvalidItem
  obtain ⟨ci_InvalidNumber, mi_InvalidNumber, hi_InvalidNumber⟩ := T.is_InvalidNumber
  obtain ⟨ci_InvalidPaper, mi_InvalidPaper, hi_InvalidPaper⟩ := T.is_InvalidPaper
  obtain ⟨ci_InvalidQuestion, mi_InvalidQuestion, hi_InvalidQuestion⟩ := T.is_InvalidQuestion
  obtain ⟨ci_InvalidText, mi_InvalidText, hi_InvalidText⟩ := T.is_InvalidText
  obtain ⟨ci_InvalidVector, mi_InvalidVector, hi_InvalidVector⟩ := T.is_InvalidVector
  obtain ⟨ci_Refused, mi_Refused, hi_Refused⟩ := T.is_Refused
  obtain ⟨ci_StoreError, mi_StoreError, hi_StoreError⟩ := T.is_StoreError
  exact ⟨_, (dss_cons (ds_setLc 1 (own := [("turn", 7)]) rfl sc__law_errors_right.nd (di_range1 T.z_range (da_cons de_int da_nil)) (show BlkOk ["heap", "some", "made", "error", "worded", "text", "own", "turn", "told"] (defScope s__law_errors_right) _ [("turn", 7)] from ⟨rfl, by decide +kernel, by decide +kernel, by decide +kernel, by decide +kernel⟩) (fun _ _ _ _ _ => (dg_name 7 sc__law_errors_right.nd)) (fun _ _ _ _ _ => dts_nil) (fun _ _ _ _ _ => (de_h h__law_pick (hr.mono (by decide)) gd (da_cons (de_var 0) (da_cons (de_lst (da_cons de_int (da_cons (de_neg de_int) (da_cons de_non (da_cons de_str (da_cons (de_tup (da_cons de_int (da_cons de_int da_nil))) (da_cons (de_lst da_nil) (da_cons de_bl da_nil)))))))) da_nil)))) keep_name (by rfl)) (dss_cons (ds_set 2 sc__law_errors_right.nd (de_lst (da_cons (de_err v_InvalidVector (hr.mono (by decide)) (da_cons (de_ix (de_var 1) de_int) da_nil)) (da_cons (de_errK (ks := ["at"]) (idx := [0, 1]) v_InvalidItem (hr.mono (by decide)) (fun _ _ _ _ _ _ us ws h1 h2 => match us, ws, h1, h2 with | [_], [_], _, _ => rfl) (dk_cons (de_ix (de_var 1) de_int) dk_nil)) (da_cons (de_err v_InvalidFilter (hr.mono (by decide)) (da_cons (de_ix (de_var 1) de_int) da_nil)) (da_cons (de_errK (ks := ["at"]) (idx := [0, 1]) v_InvalidQuestion (hr.mono (by decide)) (fun _ _ _ _ _ _ us ws h1 h2 => match us, ws, h1, h2 with | [_], [_], _, _ => rfl) (dk_cons (de_ix (de_var 1) de_int) dk_nil)) (da_cons (de_err v_InvalidPaper (hr.mono (by decide)) (da_cons (de_ix (de_var 1) de_int) da_nil)) da_nil))))))) (dss_cons (ds_for (passes_of rfl) rfl (di_seq (de_var 2)) (dg_name 3 sc__law_errors_right.nd) (dss_one (ds_if (dt_cmp (op_neV hr) sim_neV (de_callB (call_repr_any hr gd) sim_repr T.z_repr (show bootBuiltins "repr" = some (.builtin "repr") from rfl) (da_cons (de_ef (L := errNames) T.ef T.nf_at (de_var 3)) da_nil)) (de_callB (call_repr_any hr gd) sim_repr T.z_repr (show bootBuiltins "repr" = some (.builtin "repr") from rfl) (da_cons (de_ix (de_var 1) de_int) da_nil))) (dss_one (ds_ret de_bl)) dss_nil))) (dss_cons (ds_set 4 sc__law_errors_right.nd (de_lst (da_cons (de_err v_InvalidNumber (hr.mono (by decide)) (da_cons (de_ix (de_var 1) de_int) da_nil)) (da_cons (de_errK (ks := ["word"]) (idx := [0, 1]) v_Refused (hr.mono (by decide)) (fun _ _ _ _ _ _ us ws h1 h2 => match us, ws, h1, h2 with | [_], [_], _, _ => rfl) (dk_cons (de_ix (de_var 1) de_int) dk_nil)) (da_cons (de_err v_Broken (hr.mono (by decide)) (da_cons (de_ix (de_var 1) de_int) da_nil)) da_nil))))) (dss_cons (ds_for (passes_of rfl) rfl (di_seq (de_var 4)) (dg_name 3 sc__law_errors_right.nd) (dss_one (ds_if (dt_cmp (op_neV hr) sim_neV (de_callB (call_repr_any hr gd) sim_repr T.z_repr (show bootBuiltins "repr" = some (.builtin "repr") from rfl) (da_cons (de_ef (L := errNames) T.ef T.nf_word (de_var 3)) da_nil)) (de_callB (call_repr_any hr gd) sim_repr T.z_repr (show bootBuiltins "repr" = some (.builtin "repr") from rfl) (da_cons (de_ix (de_var 1) de_int) da_nil))) (dss_one (ds_ret de_bl)) dss_nil))) (dss_cons (ds_set 5 sc__law_errors_right.nd (de_errK (ks := ["at", "line"]) (idx := [0, 2, 1]) v_InvalidText (hr.mono (by decide)) (fun _ _ _ _ _ _ us ws h1 h2 => match us, ws, h1, h2 with | [_], [_, _], _, _ => rfl) (dk_cons (de_ix (de_var 1) de_int) (dk_cons (de_ix (de_var 1) de_int) dk_nil)))) (dss_cons (ds_if (DW.dt (dw_or (dt_cmp (op_neV hr) sim_neV (de_callB (call_repr_any hr gd) sim_repr T.z_repr (show bootBuiltins "repr" = some (.builtin "repr") from rfl) (da_cons (de_lst (da_cons (de_ef (L := errNames) T.ef T.nf_line (de_var 5)) (da_cons (de_ef (L := errNames) T.ef T.nf_at (de_var 5)) da_nil))) da_nil)) (de_callB (call_repr_any hr gd) sim_repr T.z_repr (show bootBuiltins "repr" = some (.builtin "repr") from rfl) (da_cons (de_var 1) da_nil))) (dw_or1 (dt_cmp (op_neV hr) sim_neV (de_callB (call_repr_any hr gd) sim_repr T.z_repr (show bootBuiltins "repr" = some (.builtin "repr") from rfl) (da_cons (de_ef (L := errNames) T.ef T.nf_line (de_err v_InvalidText (hr.mono (by decide)) (da_cons (de_ix (de_var 1) de_int) (da_cons (de_ix (de_var 1) de_int) da_nil)))) da_nil)) (de_callB (call_repr_any hr gd) sim_repr T.z_repr (show bootBuiltins "repr" = some (.builtin "repr") from rfl) (da_cons (de_ix (de_var 1) de_int) da_nil)))))) (dss_one (ds_ret de_bl)) dss_nil) (dss_cons (ds_for (passes_of rfl) rfl (di_seq (de_add (de_add (de_var 2) (de_var 4)) (de_lst (da_cons (de_var 5) da_nil)))) (dg_name 3 sc__law_errors_right.nd) (dss_cons (ds_set 6 sc__law_errors_right.nd (de_lst (da_cons (de_isEv (L := errNames) (v := .ref ci_InvalidVector) (cv := .ref ci_InvalidVector) (tab := tab_InvalidVector) T.ef (fun y C b cl _ h => hi_InvalidVector y C b cl h) (fun u r => r) T.z_isinstance (de_var 3) (pe_glob rfl mi_InvalidVector rfl)) (da_cons (de_isEv (L := errNames) (v := .ref ci_InvalidItem) (cv := .ref ci_InvalidItem) (tab := tab_InvalidItem) T.ef (fun y C b cl _ h => hi_InvalidItem y C b cl h) (fun u r => r) T.z_isinstance (de_var 3) (pe_glob rfl mi_InvalidItem rfl)) (da_cons (de_isEv (L := errNames) (v := .ref ci_InvalidFilter) (cv := .ref ci_InvalidFilter) (tab := tab_InvalidFilter) T.ef (fun y C b cl _ h => hi_InvalidFilter y C b cl h) (fun u r => r) T.z_isinstance (de_var 3) (pe_glob rfl mi_InvalidFilter rfl)) (da_cons (de_isEv (L := errNames) (v := .ref ci_InvalidQuestion) (cv := .ref ci_InvalidQuestion) (tab := tab_InvalidQuestion) T.ef (fun y C b cl _ h => hi_InvalidQuestion y C b cl h) (fun u r => r) T.z_isinstance (de_var 3) (pe_glob rfl mi_InvalidQuestion rfl)) da_nil)))))) (dss_cons (ds_set 6 sc__law_errors_right.nd (de_catM (de_var 6) (de_lst (da_cons (de_isEv (L := errNames) (v := .ref ci_InvalidPaper) (cv := .ref ci_InvalidPaper) (tab := tab_InvalidPaper) T.ef (fun y C b cl _ h => hi_InvalidPaper y C b cl h) (fun u r => r) T.z_isinstance (de_var 3) (pe_glob rfl mi_InvalidPaper rfl)) (da_cons (de_isEv (L := errNames) (v := .ref ci_InvalidNumber) (cv := .ref ci_InvalidNumber) (tab := tab_InvalidNumber) T.ef (fun y C b cl _ h => hi_InvalidNumber y C b cl h) (fun u r => r) T.z_isinstance (de_var 3) (pe_glob rfl mi_InvalidNumber rfl)) (da_cons (de_isEv (L := errNames) (v := .ref ci_Refused) (cv := .ref ci_Refused) (tab := tab_Refused) T.ef (fun y C b cl _ h => hi_Refused y C b cl h) (fun u r => r) T.z_isinstance (de_var 3) (pe_glob rfl mi_Refused rfl)) (da_cons (de_isEv (L := errNames) (v := .ref ci_Broken) (cv := .ref ci_Broken) (tab := tab_Broken) T.ef (fun y C b cl _ h => hi_Broken y C b cl h) (fun u r => r) T.z_isinstance (de_var 3) (pe_glob rfl mi_Broken rfl)) da_nil))))))) (dss_cons (ds_expr (de_append (de_var 6) (da_cons (de_isEv (L := errNames) (v := .ref ci_InvalidText) (cv := .ref ci_InvalidText) (tab := tab_InvalidText) T.ef (fun y C b cl _ h => hi_InvalidText y C b cl h) (fun u r => r) T.z_isinstance (de_var 3) (pe_glob rfl mi_InvalidText rfl)) da_nil))) (dss_one (ds_if (DW.dt (dw_or (dt_cmp (op_neV hr) sim_neV (de_callB call_lenA sim_len T.z_len (show bootBuiltins "len" = some (.builtin "len") from rfl) (da_cons (de_lc (own := [("told", 8)]) rfl sc__law_errors_right.nd (di_seq (de_var 6)) (show BlkOk ["heap", "some", "made", "error", "worded", "text", "own", "turn", "told"] (defScope s__law_errors_right) _ [("told", 8)] from ⟨rfl, by decide +kernel, by decide +kernel, by decide +kernel, by decide +kernel⟩) (fun _ _ _ _ _ => (dg_name 8 sc__law_errors_right.nd)) (fun _ _ _ _ _ => (dts_one (dt_val (de_var 8)))) (fun _ _ _ _ _ => de_int) keep_name) da_nil)) de_int) (dw_or (dt_not (dt_val (de_isEv (L := errNames) (v := .ref ci_StoreError) (cv := .ref ci_StoreError) (tab := tab_StoreError) T.ef (fun y C b cl _ h => hi_StoreError y C b cl h) (fun u r => r) T.z_isinstance (de_var 3) (pe_glob rfl mi_StoreError rfl)))) (dw_or1 (dt_not (dt_val (de_isEv (L := errNames) (v := .ty "ValueError") (cv := .type "ValueError") (tab := fun _ => some true) T.ef (fun y C b cl hy h => (T.isVE y C cl hy).trans h) (fun u r => r) T.z_isinstance (de_var 3) (de_bty T.z_ValueError rfl).pe))))))) (dss_one (ds_ret de_bl)) dss_nil)))))) (dss_one (ds_ret de_bl))))))))))⟩
theorem ok__law_errors_right {f : Addr} {fd : FuncData} (Fn : Fun K "_law_errors_right" "_law_errors_right" s__law_errors_right f fd) (T : Txt K mg aKINDS) (h__law_pick : Has P w K mg base 2 "_law_pick" s__law_pick ["heap", "some"] F__law_pick) (v_Broken : ErrV P w K mg base 1 "Broken" "Broken.__init__" i_Broken ["self", "word"] ["word"]) (v_InvalidFilter : ErrV P w K mg base 1 "InvalidFilter" "InvalidFilter.__init__" i_InvalidFilter ["self", "at"] ["at"]) (v_InvalidItem : ErrV P w K mg base 1 "InvalidItem" "InvalidItem.__init__" i_InvalidItem ["self", "at"] ["at"]) (v_InvalidNumber : ErrV P w K mg base 1 "InvalidNumber" "InvalidNumber.__init__" i_InvalidNumber ["self", "word"] ["word"]) (v_InvalidPaper : ErrV P w K mg base 1 "InvalidPaper" "InvalidPaper.__init__" i_InvalidPaper ["self", "at"] ["at"]) (v_InvalidQuestion : ErrV P w K mg base 1 "InvalidQuestion" "InvalidQuestion.__init__" i_InvalidQuestion ["self", "at"] ["at"]) (v_InvalidText : ErrV P w K mg base 1 "InvalidText" "InvalidText.__init__" i_InvalidText ["self", "line", "at"] ["line", "at"]) (v_InvalidVector : ErrV P w K mg base 1 "InvalidVector" "InvalidVector.__init__" i_InvalidVector ["self", "at"] ["at"]) (v_Refused : ErrV P w K mg base 1 "Refused" "Refused.__init__" i_Refused ["self", "word"] ["word"]) (len : ∀ ds M Q E, F__law_errors_right ds M Q E → ds.length = 1)
    (body : ∀ ds M Q R, F__law_errors_right ds M Q R → W__law_errors_right { nx := fun _ M' => Q .non M', rt := Q, xr := lx R } (startE 9 ds) M) : FnG P w K mg base 3 f fd ["heap"] (lift K F__law_errors_right) :=
  ok_fn Fn sc__law_errors_right len fun cdv A outer s H E gd hr => (dv__law_errors_right T h__law_pick v_Broken v_InvalidFilter v_InvalidItem v_InvalidNumber v_InvalidPaper v_InvalidQuestion v_InvalidText v_InvalidVector v_Refused cdv A outer s H E gd hr).elim fun t ht => ⟨t, _, ht, body⟩
theorem sc_law : FnScope ["script", "heap", "turn", "great", "kind", "vector", "many", "more", "value", "near", "place"] ["script"] (defScope s_law) := ⟨rfl, rfl, rfl, by decide +kernel, rfl, by decide +kernel, by decide +kernel⟩
abbrev W_law : WS := (wSeq (wAsg (wCall F__law_heap (wCons (wVar 0) wNil)) (wgName 1)) (wSeq (wFor (wiRange1 (wCons (wC (.int 3)) wNil)) (wgName 2) (wSeq (wAsg (wCB fTuple (wCons (wLc (wiRange1 (wCons (wOp addD (wC (.int 1)) (wCall F__law_draw (wCons (wVar 1) (wCons (wC (.int 8)) wNil)))) wNil)) (wgName 10) wYes (wOp (fI0 fun i j => .int (i - j)) (wCall F__law_draw (wCons (wVar 1) (wCons (wOp addD (wOp (fI CM fun i j => .int (i * j)) (wC (.int 2)) (wOp (fI CPow fun i j => .int (i ^ j.toNat)) (wC (.int 10)) (wC (.int 4)))) (wC (.int 1))) wNil))) (wOp (fI CPow fun i j => .int (i ^ j.toNat)) (wC (.int 10)) (wC (.int 4)))) [10]) wNil)) (wgName 5)) (wSeq (wAsg (wCB fLen (wCons (wVar 5) wNil)) (wgName 6)) (wSeq (wIfS (wOr (wNot (wB (wCall F__law_right (wCons (wVar 5) (wCons (wVar 6) (wCons (wC .non) wNil)))))) (wNot (wB (wCall F__law_right (wCons (wVar 5) (wCons (wOp addD (wVar 6) (wCall F__law_pick (wCons (wVar 1) (wCons (wLst (wCons (wC (.int 1)) (wCons (wNeg (wC (.int 1))) (wCons (wC (.int 3)) wNil)))) wNil)))) (wCons (wNeg (wC (.int 1))) wNil))))))) (wRet (wC (.bl false))) wNext) (wSeq (wFor (wiRange1 (wCons (wC (.int 4)) wNil)) (wgName 7) (wIfS (wNot (wB (wCall F__law_spoilt_right (wCons (wVar 1) (wCons (wVar 5) wNil))))) (wRet (wC (.bl false))) wNext)) (wFor (wiSeq (wLst (wCons (wCB fList (wCons (wVar 5) wNil)) (wCons (wC .non) (wCons (wVar 6) (wCons (wC (.str "")) (wCons wDct0 (wCons (wCB fStrT (wCons (wVar 5) wNil)) (wCons (wOp tmulD (wTup (wCons (wVar 5) wNil)) (wOp addD (wVar 6) (wC (.int 1)))) wNil))))))))) (wgName 8) (wIfS (wNot (wB (wCall F__law_right (wCons (wVar 8) (wCons (wVar 6) (wCons (wNeg (wC (.int 1))) wNil)))))) (wRet (wC (.bl false))) wNext))))))) (wSeq (wAsg (wTup (wCons (wCall F__law_pick (wCons (wVar 1) (wCons (wLst (wCons (wOp (fI CPow fun i j => .int (i ^ j.toNat)) (wC (.int 10)) (wC (.int 4))) (wCons (wOp (fI0 fun i j => .int (i - j)) (wOp (fI CPow fun i j => .int (i ^ j.toNat)) (wC (.int 10)) (wC (.int 4))) (wC (.int 1))) (wCons (wOp (fI0 fun i j => .int (i - j)) (wC (.int 0)) (wOp (fI CPow fun i j => .int (i ^ j.toNat)) (wC (.int 10)) (wC (.int 4)))) wNil)))) wNil))) (wCons (wOp (fI0 fun i j => .int (i - j)) (wC (.int 0)) (wOp (fI CPow fun i j => .int (i ^ j.toNat)) (wC (.int 10)) (wC (.int 4)))) wNil))) (wgName 3)) (wSeq (wIfS (wOr (wNot (wB (wCall F__law_right (wCons (wVar 3) (wCons (wC (.int 2)) (wCons (wC .non) wNil)))))) (wNot (wB (wCall F__law_right (wCons (wOp addD (wVar 3) (wTup (wCons (wC .non) wNil))) (wCons (wC (.int 3)) (wCons (wC (.int 2)) wNil))))))) (wRet (wC (.bl false))) wNext) (wSeq (wIfS (wOr (wB (wOp (eqV true) (wC c_KINDS) (wTup (wCons (wC (.str "square")) (wCons (wC (.str "sum")) (wCons (wC (.str "most")) (wCons (wC (.str "unlike")) wNil))))))) (wNot (wB (wCB fIsi (wCons (wC c_KINDS) (wCons (wC (.ty "tuple")) wNil)))))) (wRet (wC (.bl false))) wNext) (wSeq (wFor (wiSeq (wC c_KINDS)) (wgName 4) (wSeq (wAsg (wCall F__law_pick (wCons (wVar 1) (wCons (wLst (wCons (wOp addD (wVar 4) (wC (.str "s"))) (wCons (wSl (wVar 4) wNoP (wPart (wNeg (wC (.int 1))))) (wCons (wUpper (wVar 4)) (wCons (wTup (wCons (wVar 4) wNil)) (wCons (wLst (wCons (wVar 4) wNil)) (wCons (wOp addD (wVar 4) (wC (.str " "))) (wCons (wC .non) (wCons (wC (.int 0)) (wCons (wC (.bl true)) (wCons wDct0 (wCons (wC (.str "")) wNil)))))))))))) wNil))) (wgName 9)) (wIfS (wOr (wB (wOp fNotB (wCall F_is_kind (wCons (wVar 4) wNil)) (wC (.bl true)))) (wB (wOp fNotB (wCallK 0 1 [0] F_is_kind wNil (wCons (wVar 9) wNil)) (wC (.bl false))))) (wRet (wC (.bl false))) wNext))) (wRet (wAndV (wCall F__law_errors_right (wCons (wVar 1) wNil)) (wAndV (wOp (eqV false) (wCall F__law_heard (wCons (wTup (wCons (wC (.int 1)) (wCons (wC (.bl true)) (wCons (wC .non) wNil)))) (wCons (wC (.int 3)) wNil))) (wTup (wCons (wC (.str "wrong")) (wCons (wC (.int 1)) wNil)))) (wOp (fIsN false) (wCallK 0 2 [1, 0] F_check_vector wNil (wCons (wC (.int 1)) (wCons (wTup (wCons (wC (.int 0)) wNil)) wNil))) (wC .non)))))))))))
theorem dv_law {f : Addr} (T : Txt K mg aKINDS) (h_check_vector : Has P w K mg base 3 "check_vector" s_check_vector ["value", "many"] F_check_vector) (h_is_kind : Has P w K mg base 1 "is_kind" s_is_kind ["value"] F_is_kind) (h__law_heap : Has P w K mg base 1 "_law_heap" s__law_heap ["script"] F__law_heap) (h__law_draw : Has P w K mg base 1 "_law_draw" s__law_draw ["heap", "many"] F__law_draw) (h__law_pick : Has P w K mg base 2 "_law_pick" s__law_pick ["heap", "some"] F__law_pick) (h__law_heard : Has P w K mg base 4 "_law_heard" s__law_heard ["value", "many"] F__law_heard) (h__law_right : Has P w K mg base 5 "_law_right" s__law_right ["value", "many", "due"] F__law_right) (h__law_spoilt_right : Has P w K mg base 6 "_law_spoilt_right" s__law_spoilt_right ["heap", "vector"] F__law_spoilt_right) (h__law_errors_right : Has P w K mg base 3 "_law_errors_right" s__law_errors_right ["heap"] F__law_errors_right) (cdv : Value) (A : Around) (outer : List Env) (s : Shared) (H : Hp) (E : XK) (gd : A.guards = some []) (hr : Room 6 (A.deeper (envOfC "law" (defScope s_law) s.heap.objs.size f cdv))) :
    ∃ t, DSs (cxOf (L2.CX P w) P w K mg base ["script", "heap", "turn", "great", "kind", "vector", "many", "more", "value", "near", "place"] "law" (defScope s_law) f cdv A outer s H E) (lw E) (defBody s_law) t W_law := by
  exact ⟨_, (dss_cons (ds_set 1 sc_law.nd (de_h h__law_heap (hr.mono (by decide)) gd (da_cons (de_var 0) da_nil))) (dss_cons (ds_for (passes_of rfl) rfl (di_range1 T.z_range (da_cons de_int da_nil)) (dg_name 2 sc_law.nd) (dss_cons (ds_set 5 sc_law.nd (de_callTy call_tuple_of sim_tuple T.z_tuple (show bootBuiltins "tuple" = some (.type "tuple") from rfl) (da_cons (de_lc (own := [("place", 10)]) rfl sc_law.nd (di_range1 T.z_range (da_cons (de_add de_int (de_h h__law_draw (hr.mono (by decide)) gd (da_cons (de_var 1) (da_cons de_int da_nil)))) da_nil)) (show BlkOk ["script", "heap", "turn", "great", "kind", "vector", "many", "more", "value", "near", "place"] (defScope s_law) _ [("place", 10)] from ⟨rfl, by decide +kernel, by decide +kernel, by decide +kernel, by decide +kernel⟩) (fun _ _ _ _ _ => (dg_name 10 sc_law.nd)) (fun _ _ _ _ _ => dts_nil) (fun _ _ _ _ _ => (de_sub (de_h h__law_draw (hr.mono (by decide)) gd (da_cons (de_var 1) (da_cons (de_add (de_mul de_int (de_pow de_int de_int)) de_int) da_nil))) (de_pow de_int de_int))) keep_name) da_nil))) (dss_cons (ds_set 6 sc_law.nd (de_callB call_lenA sim_len T.z_len (show bootBuiltins "len" = some (.builtin "len") from rfl) (da_cons (de_var 5) da_nil))) (dss_cons (ds_if (DW.dt (dw_or (dt_not (dt_val (de_h h__law_right (hr.mono (by decide)) gd (da_cons (de_var 5) (da_cons (de_var 6) (da_cons de_non da_nil)))))) (dw_or1 (dt_not (dt_val (de_h h__law_right (hr.mono (by decide)) gd (da_cons (de_var 5) (da_cons (de_add (de_var 6) (de_h h__law_pick (hr.mono (by decide)) gd (da_cons (de_var 1) (da_cons (de_lst (da_cons de_int (da_cons (de_neg de_int) (da_cons de_int da_nil)))) da_nil)))) (da_cons (de_neg de_int) da_nil))))))))) (dss_one (ds_ret de_bl)) dss_nil) (dss_cons (ds_for (passes_of rfl) rfl (di_range1 T.z_range (da_cons de_int da_nil)) (dg_name 7 sc_law.nd) (dss_one (ds_if (dt_not (dt_val (de_h h__law_spoilt_right (hr.mono (by decide)) gd (da_cons (de_var 1) (da_cons (de_var 5) da_nil))))) (dss_one (ds_ret de_bl)) dss_nil))) (dss_one (ds_for (passes_of rfl) rfl (di_seq (de_lst (da_cons (de_callTy call_list_of sim_list T.z_list (show bootBuiltins "list" = some (.type "list") from rfl) (da_cons (de_var 5) da_nil)) (da_cons de_non (da_cons (de_var 6) (da_cons de_str (da_cons de_dct0 (da_cons (de_callTy (call_str_tup hr gd) sim_strT T.z_str (show bootBuiltins "str" = some (.type "str") from rfl) (da_cons (de_var 5) da_nil)) (da_cons (de_tmul (de_tup (da_cons (de_var 5) da_nil)) (de_add (de_var 6) de_int)) da_nil))))))))) (dg_name 8 sc_law.nd) (dss_one (ds_if (dt_not (dt_val (de_h h__law_right (hr.mono (by decide)) gd (da_cons (de_var 8) (da_cons (de_var 6) (da_cons (de_neg de_int) da_nil)))))) (dss_one (ds_ret de_bl)) dss_nil))))))))) (dss_cons (ds_set 3 sc_law.nd (de_tup (da_cons (de_h h__law_pick (hr.mono (by decide)) gd (da_cons (de_var 1) (da_cons (de_lst (da_cons (de_pow de_int de_int) (da_cons (de_sub (de_pow de_int de_int) de_int) (da_cons (de_sub de_int (de_pow de_int de_int)) da_nil)))) da_nil))) (da_cons (de_sub de_int (de_pow de_int de_int)) da_nil)))) (dss_cons (ds_if (DW.dt (dw_or (dt_not (dt_val (de_h h__law_right (hr.mono (by decide)) gd (da_cons (de_var 3) (da_cons de_int (da_cons de_non da_nil)))))) (dw_or1 (dt_not (dt_val (de_h h__law_right (hr.mono (by decide)) gd (da_cons (de_add (de_var 3) (de_tup (da_cons de_non da_nil))) (da_cons de_int (da_cons de_int da_nil))))))))) (dss_one (ds_ret de_bl)) dss_nil) (dss_cons (ds_if (DW.dt (dw_or (dt_cmp (op_neV hr) sim_neV (de_glob (v := .ref aKINDS) (by rfl) T.m_KINDS rfl T.r_KINDS) (de_tup (da_cons de_str (da_cons de_str (da_cons de_str (da_cons de_str da_nil)))))) (dw_or1 (dt_not (dt_val (de_callB call_isi sim_isi T.z_isinstance (show bootBuiltins "isinstance" = some (.builtin "isinstance") from rfl) (da_cons (de_glob (v := .ref aKINDS) (by rfl) T.m_KINDS rfl T.r_KINDS) (da_cons (de_bty T.z_tuple rfl) da_nil)))))))) (dss_one (ds_ret de_bl)) dss_nil) (dss_cons (ds_for (passes_of rfl) rfl (di_seq (de_glob (v := .ref aKINDS) (by rfl) T.m_KINDS rfl T.r_KINDS)) (dg_name 4 sc_law.nd) (dss_cons (ds_set 9 sc_law.nd (de_h h__law_pick (hr.mono (by decide)) gd (da_cons (de_var 1) (da_cons (de_lst (da_cons (de_add (de_var 4) de_str) (da_cons (de_slice (de_var 4) do_none (do_some (de_neg de_int))) (da_cons (de_s0 (g' := fun a => .str (Txt.upper a)) PySem.F.slot_str_upper PySem.F.type_str_upper mt_upper (fun a H Q c q => ⟨a, rfl, rfl, c, q⟩) (fun a H => .str _) (de_var 4)) (da_cons (de_tup (da_cons (de_var 4) da_nil)) (da_cons (de_lst (da_cons (de_var 4) da_nil)) (da_cons (de_add (de_var 4) de_str) (da_cons de_non (da_cons de_int (da_cons de_bl (da_cons de_dct0 (da_cons de_str da_nil)))))))))))) da_nil)))) (dss_one (ds_if (DW.dt (dw_or (dt_cmp op_notBl sim_notB (de_h h_is_kind (hr.mono (by decide)) gd (da_cons (de_var 4) da_nil)) de_bl) (dw_or1 (dt_cmp op_notBl sim_notB (de_hk0 (ks := ["value"]) (idx := [0]) h_is_kind (hr.mono (by decide)) gd (fun _ _ _ _ _ _ us ws h1 h2 => match us, ws, h1, h2 with | [], [_], _, _ => rfl) (dk_cons (de_var 9) dk_nil)) de_bl)))) (dss_one (ds_ret de_bl)) dss_nil)))) (dss_one (ds_ret (de_and (de_h h__law_errors_right (hr.mono (by decide)) gd (da_cons (de_var 1) da_nil)) (de_and (de_cmp (op_eqV hr) sim_eqV (de_h h__law_heard (hr.mono (by decide)) gd (da_cons (de_tup (da_cons de_int (da_cons de_bl (da_cons de_non da_nil)))) (da_cons de_int da_nil))) (de_tup (da_cons de_str (da_cons de_int da_nil)))) (de_one (de_cmp op_isN sim_isN (de_hk0 (ks := ["many", "value"]) (idx := [1, 0]) h_check_vector (hr.mono (by decide)) gd (fun _ _ _ _ _ _ us ws h1 h2 => match us, ws, h1, h2 with | [], [_, _], _, _ => rfl) (dk_cons de_int (dk_cons (de_tup (da_cons de_int da_nil)) dk_nil))) de_non))))))))))))⟩
theorem ok_law {f : Addr} {fd : FuncData} (Fn : Fun K "law" "law" s_law f fd) (T : Txt K mg aKINDS) (h_check_vector : Has P w K mg base 3 "check_vector" s_check_vector ["value", "many"] F_check_vector) (h_is_kind : Has P w K mg base 1 "is_kind" s_is_kind ["value"] F_is_kind) (h__law_heap : Has P w K mg base 1 "_law_heap" s__law_heap ["script"] F__law_heap) (h__law_draw : Has P w K mg base 1 "_law_draw" s__law_draw ["heap", "many"] F__law_draw) (h__law_pick : Has P w K mg base 2 "_law_pick" s__law_pick ["heap", "some"] F__law_pick) (h__law_heard : Has P w K mg base 4 "_law_heard" s__law_heard ["value", "many"] F__law_heard) (h__law_right : Has P w K mg base 5 "_law_right" s__law_right ["value", "many", "due"] F__law_right) (h__law_spoilt_right : Has P w K mg base 6 "_law_spoilt_right" s__law_spoilt_right ["heap", "vector"] F__law_spoilt_right) (h__law_errors_right : Has P w K mg base 3 "_law_errors_right" s__law_errors_right ["heap"] F__law_errors_right) (len : ∀ ds M Q E, F_law ds M Q E → ds.length = 1)
    (body : ∀ ds M Q R, F_law ds M Q R → W_law { nx := fun _ M' => Q .non M', rt := Q, xr := lx R } (startE 11 ds) M) : FnG P w K mg base 7 f fd ["script"] (lift K F_law) :=
  ok_fn Fn sc_law len fun cdv A outer s H E gd hr => (dv_law T h_check_vector h_is_kind h__law_heap h__law_draw h__law_pick h__law_heard h__law_right h__law_spoilt_right h__law_errors_right cdv A outer s H E gd hr).elim fun t ht => ⟨t, _, ht, body⟩
theorem ok__law_draw {f : Addr} {fd : FuncData} (Fn : Fun K "_law_draw" "_law_draw" s__law_draw f fd) (T : Txt K mg aKINDS) : FnG P w K mg base 1 f fd ["heap", "many"] (lift K drawF) := by
  refine fn_g Fn sc__law_draw (fun vs H Q E h => ?_) (fun cdv A outer s H vs Q E gd hr h => ?_)
  · obtain ⟨Z, ds, M, Qd, Rd, _, r, ⟨a, a0, n, rfl, _⟩, _⟩ := h
    exact r.len
  · obtain ⟨Z, ds, M, Qd, Rd, sat, r, ⟨a, a0, n, rfl, hm, hn, hn2, q⟩, kq, _⟩ := h
    cases r with
    | cons r1 r2 =>
    cases r2 with
    | cons r2 r3 =>
    cases r3
    cases r1
    cases r2
    obtain ⟨m0, cs, st, ea, e0, s0, s1, cl, cn⟩ := sat.cell a _ hm
    have d0 : Dr H a a0 cs st H := ⟨fun _ _ _ _ e => e, ea, e0, s0, s1, cl, cn⟩
    have fin : ∀ (H' : Hp) (cs' : List Int) (st' k : Int), Dr H a a0 cs' st' H' → 0 ≤ k → k < n → Q (.int k) H' := fun H' cs' st' k d h1 h2 => kq _ _ H' M (Go.drawn sat hm d.keep d.ok) (.int k) (q k h1 h2)
    have last : ∀ cs' : List Int, cs' ≠ [] → ∃ cs0 c, cs' = cs0 ++ [c] := fun cs' h => ⟨_, _, (List.dropLast_concat_getLast h).symm⟩
    have tail : ∃ t2, PSs (cxOf (L2.CX P w) P w K mg base ["heap", "many", "rest"] "_law_draw" (defScope s__law_draw) f cdv A outer s H E) (defBody s__law_draw).tail t2 ∧
        ∀ (H2 : Hp) (cs' : List Int), Dr H a a0 cs' st H2 → t2 { nx := fun _ J => Q .non J, rt := Q } [some (.ref a), some (.int n), none] H2 := by
      refine ⟨_, pss_cons (ps_if (dt_cmp (op_neG hr) sim_ne (de_ix (de_var 0) de_int) (de_lst da_nil)).pe
            (pss_cons (ps_set (i := 2) sc__law_draw.nd rfl (Or.inl rfl) (pe_bm0 PySem.F.plainAttrs_list PySem.F.slot_list_pop PySem.F.type_list_pop mt_pop (de_ix (de_var 0) de_int).pe))
              (pss_cons (ps_expr (pe_bm PySem.F.plainAttrs_list PySem.F.slot_list_append PySem.F.type_list_append mt_append (de_ix (de_var 0) de_int).pe (da_cons (de_fdiv (de_var 2) (de_var 1)) da_nil).pe))
                (pss_one (ps_ret (de_mod (de_callTy call_int1 sim_int T.z_int (by rfl) (da_cons (de_var 2) da_nil)) (de_var 1)).pe)))) pss_nil)
          (pss_cons (ds_asg (E := lw E) (de_mod (de_callTy call_int1 sim_int T.z_int (by rfl) (da_cons (de_add (de_mul (de_ix (de_var 0) de_int) de_int) de_int) da_nil)) de_int) (dg_sub (de_var 0) de_int)).pe
            (pss_one (ps_ret (de_mod (de_callTy call_int1 sim_int T.z_int (by rfl) (da_cons (de_fdiv (de_ix (de_var 0) de_int) de_int) da_nil)) (de_var 1)).pe))), fun H2 cs' d2 => ?_⟩
      refine ⟨_, rfl, ix_l d2.ha rfl ⟨Nat.zero_le _, fun p hp => ?_⟩⟩
      have d3 := d2.new (o := .lst []) hp
      refine ne_nil d3.h0 upd_same ⟨_, rfl, ?_⟩
      refine ite2 (fun hc => ?_) (fun hc => ?_)
      · obtain ⟨cs0, c, rfl⟩ := last cs' (of_decide_eq_true hc)
        have c0 : 0 ≤ c := d3.pos c (List.mem_append_right _ (List.mem_singleton.mpr rfl))
        have d4 := d3.put (cs' := cs0) (by have z := d3.len; rw [List.length_append] at z; omega) (fun x hx => d3.pos x (List.mem_append_left _ hx))
        have l4 : cs0.length < 100 := by
          have z := d3.len
          rw [List.length_append, List.length_singleton] at z
          omega
        refine ⟨_, rfl, ix_l d3.ha rfl ⟨.inl ⟨rfl, _, SqL.of d3.h0⟩, pop_last d3.h0 ?_⟩⟩
        refine ⟨_, rfl, ix_l d4.ha rfl ⟨.inl ⟨rfl, _, SqL.of d4.h0⟩, _, rfl, _, rfl, _, _, rfl, rfl, ⟨hn, hn2⟩, a0, _, _, rfl, rfl, d4.h0, by rw [List.length_map]; exact Nat.lt_of_lt_of_le l4 (by decide), ?_⟩⟩
        have d5 := d4.put (cs' := cs0 ++ [c / n]) (by rw [List.length_append, List.length_singleton]; omega) (fun x hx => by
          rcases List.mem_append.mp hx with z | z
          · exact d4.pos x z
          · rw [List.mem_singleton.mp z]
            exact Int.ediv_nonneg c0 (by omega))
        rw [List.map_append] at d5
        refine ⟨_, rfl, .inl ⟨_, rfl, _, rfl, _, _, rfl, rfl, hn, ?_⟩⟩
        exact fin _ _ _ _ d5 (Int.emod_nonneg _ (by omega)) (Int.emod_lt_of_pos _ hn)
      · refine ⟨_, rfl, ix_l d3.ha rfl ⟨_, _, rfl, rfl, .inl (.inr ⟨by decide, by decide⟩), .inl ⟨_, _, rfl, rfl, .inl ⟨_, rfl, _, _, rfl, rfl, (by show (0 : Int) < 2147483647; decide), _, rfl, a, _, _, _, rfl, rfl, d3.ha, rfl, ?_⟩⟩⟩⟩
        have d5 := d3.stir (s' := (st * 48271 + 13) % 2147483647) (Int.emod_nonneg _ (by decide)) (Int.lt_trans (Int.emod_lt_of_pos _ (by decide)) (by decide))
        exact ⟨_, rfl, ix_l d5.ha rfl ⟨_, _, rfl, rfl, ⟨(by decide), (by decide)⟩, .inl ⟨_, rfl, _, rfl, _, _, rfl, rfl, hn, fin _ _ _ _ d5 (Int.emod_nonneg _ (by omega)) (Int.emod_lt_of_pos _ hn)⟩⟩⟩
    obtain ⟨t2, ht2, out⟩ := tail
    refine ⟨_, pss_cons (ps_while (passes_of rfl) (DW.dt (dw_and (dt_cmp (op_neG hr) sim_ne (de_ix (de_var 0) de_int) (de_lst da_nil)) (dw_and1 (dt_cmp (op_eqG hr) sim_eq (de_ix (de_ix (de_var 0) de_int) (de_neg de_int)) de_int)))).pe
        (pss_one (ps_expr (pe_bm0 PySem.F.plainAttrs_list PySem.F.slot_list_pop PySem.F.type_list_pop mt_pop (de_ix (de_var 0) de_int).pe)))) ht2, ?_⟩
    refine ⟨fun m σ' H' => σ' = [some (.ref a), some (.int n), none] ∧ ∃ cs' : List Int, Dr H a a0 cs' st H' ∧ m = cs'.length, ⟨_, rfl, cs, d0, rfl⟩, ?_⟩
    rintro m σ' H' ⟨rfl, cs', d, rfl⟩
    refine ⟨_, rfl, ix_l d.ha rfl ⟨Nat.zero_le _, fun p hp => ?_⟩⟩
    have d1 := d.new (o := .lst []) hp
    refine ne_nil d1.h0 upd_same ⟨_, rfl, ?_⟩
    refine ite2 (fun hc => ?_) (fun hc => ?_)
    · obtain ⟨cs0, c, rfl⟩ := last cs' (of_decide_eq_true hc)
      refine ⟨_, rfl, ix_l d1.ha rfl ⟨_, rfl, ix_l d1.h0 at_last ?_⟩⟩
      unfold tC
      refine eq_int ⟨_, rfl, ?_⟩
      refine ite2 (fun h0 => ?_) (fun h0 => ?_)
      · have dp := d1.put (cs' := cs0) (by have z := d1.len; rw [List.length_append] at z; omega) (fun x hx => d1.pos x (List.mem_append_left _ hx))
        refine ⟨fun σ2 H2 => σ2 = [some (.ref a), some (.int n), none] ∧ Dr H a a0 cs0 st H2, fun σ2 H2 ⟨e, d2⟩ => ⟨cs0.length, by rw [List.length_append, List.length_singleton]; omega, e, cs0, d2, rfl⟩, ?_⟩
        exact ⟨_, rfl, ix_l d1.ha rfl ⟨.inl ⟨rfl, _, SqL.of d1.h0⟩, pop_last d1.h0 ⟨rfl, dp⟩⟩⟩
      · exact out _ _ d1
    · exact out _ _ d1
end
end K01
namespace K01
open PySem L2 L3
theorem wp_is_int : ∀ ds M Q R, F_is_int ds M Q R → W_is_int { nx := fun _ M' => Q .non M', rt := Q, xr := lx R } (startE 1 ds) M := by
  rintro ds M Q R ⟨d, rfl, h, q⟩
  unfold W_is_int
  simp (disch := first | assumption | decide) only [wSeq, wNext, wAsg, wgName, wIfS, wB, wOp, wVar, wC, wCall, wCallK, wCons, wNil, wRet, wRetN, wDrop, wTup, wLst, wIf, wAnd, wOr, wNot, wAndV, wOrV, wNotV, wNeg, wChain, fI, fI0, addD, fLt, fLe, fGt, fGe, fIsB, wCB, fAbs, f2I, fInt, fIsq, wPar, wPar3, permD, startE, List.map_cons, List.map_nil, List.cons_append, List.nil_append, List.append_nil, List.length_cons, List.length_nil, List.replicate, List.getElem?_cons_zero, List.getElem?_cons_succ, List.set_cons_zero, List.set_cons_succ, List.getD_cons_zero, List.getD_cons_succ, Nat.reduceAdd, Nat.reduceSub, Nat.zero_add, true_and, and_true, Bool.not_true, Bool.not_false, if_true, if_false, Bool.false_eq_true, reduceIte, decide_eq_true_eq, Bool.not_eq_true', decide_eq_false_iff_not, eqV_int, eqV_str, eqV_bl, decide_true, reduceCtorEq, not_true_eq_false, not_false_eq_true, Bool.not_eq_true, List.not_mem_nil, false_implies, implies_true, Int.reduceNeg, Int.reduceToNat, Int.reducePow, Int.reduceMul, Int.reduceAdd, draw_i, ix_t0, ix_t1, ix_t2, ix_t3, ix_m3, ix_m4, sn_ball_box, sn_cell_box, sn_cell_ball, sn_ball_cell, sn_box_ball, sn_box_cell, decide_false]
  refine isi_int h ?_
  cases d <;> first | (simp (disch := first | assumption | decide) only [wSeq, wNext, wAsg, wgName, wIfS, wB, wOp, wVar, wC, wCall, wCallK, wCons, wNil, wRet, wRetN, wDrop, wTup, wLst, wIf, wAnd, wOr, wNot, wAndV, wOrV, wNotV, wNeg, wChain, fI, fI0, addD, fLt, fLe, fGt, fGe, fIsB, wCB, fAbs, f2I, fInt, fIsq, wPar, wPar3, permD, startE, List.map_cons, List.map_nil, List.cons_append, List.nil_append, List.append_nil, List.length_cons, List.length_nil, List.replicate, List.getElem?_cons_zero, List.getElem?_cons_succ, List.set_cons_zero, List.set_cons_succ, List.getD_cons_zero, List.getD_cons_succ, Nat.reduceAdd, Nat.reduceSub, Nat.zero_add, true_and, and_true, Bool.not_true, Bool.not_false, if_true, if_false, Bool.false_eq_true, reduceIte, decide_eq_true_eq, Bool.not_eq_true', decide_eq_false_iff_not, eqV_int, eqV_str, eqV_bl, decide_true, reduceCtorEq, not_true_eq_false, not_false_eq_true, Bool.not_eq_true, List.not_mem_nil, false_implies, implies_true, Int.reduceNeg, Int.reduceToNat, Int.reducePow, Int.reduceMul, Int.reduceAdd, draw_i, ix_t0, ix_t1, ix_t2, ix_t3, ix_m3, ix_m4, sn_ball_box, sn_cell_box, sn_cell_ball, sn_ball_cell, sn_box_ball, sn_box_cell, decide_false]; refine isi_bool h ?_; simp (disch := first | assumption | decide) only [wSeq, wNext, wAsg, wgName, wIfS, wB, wOp, wVar, wC, wCall, wCallK, wCons, wNil, wRet, wRetN, wDrop, wTup, wLst, wIf, wAnd, wOr, wNot, wAndV, wOrV, wNotV, wNeg, wChain, fI, fI0, addD, fLt, fLe, fGt, fGe, fIsB, wCB, fAbs, f2I, fInt, fIsq, wPar, wPar3, permD, startE, List.map_cons, List.map_nil, List.cons_append, List.nil_append, List.append_nil, List.length_cons, List.length_nil, List.replicate, List.getElem?_cons_zero, List.getElem?_cons_succ, List.set_cons_zero, List.set_cons_succ, List.getD_cons_zero, List.getD_cons_succ, Nat.reduceAdd, Nat.reduceSub, Nat.zero_add, true_and, and_true, Bool.not_true, Bool.not_false, if_true, if_false, Bool.false_eq_true, reduceIte, decide_eq_true_eq, Bool.not_eq_true', decide_eq_false_iff_not, eqV_int, eqV_str, eqV_bl, decide_true, reduceCtorEq, not_true_eq_false, not_false_eq_true, Bool.not_eq_true, List.not_mem_nil, false_implies, implies_true, Int.reduceNeg, Int.reduceToNat, Int.reducePow, Int.reduceMul, Int.reduceAdd, draw_i, ix_t0, ix_t1, ix_t2, ix_t3, ix_m3, ix_m4, sn_ball_box, sn_cell_box, sn_cell_ball, sn_ball_cell, sn_box_ball, sn_box_cell, decide_false]; exact q) | (simp (disch := first | assumption | decide) only [wSeq, wNext, wAsg, wgName, wIfS, wB, wOp, wVar, wC, wCall, wCallK, wCons, wNil, wRet, wRetN, wDrop, wTup, wLst, wIf, wAnd, wOr, wNot, wAndV, wOrV, wNotV, wNeg, wChain, fI, fI0, addD, fLt, fLe, fGt, fGe, fIsB, wCB, fAbs, f2I, fInt, fIsq, wPar, wPar3, permD, startE, List.map_cons, List.map_nil, List.cons_append, List.nil_append, List.append_nil, List.length_cons, List.length_nil, List.replicate, List.getElem?_cons_zero, List.getElem?_cons_succ, List.set_cons_zero, List.set_cons_succ, List.getD_cons_zero, List.getD_cons_succ, Nat.reduceAdd, Nat.reduceSub, Nat.zero_add, true_and, and_true, Bool.not_true, Bool.not_false, if_true, if_false, Bool.false_eq_true, reduceIte, decide_eq_true_eq, Bool.not_eq_true', decide_eq_false_iff_not, eqV_int, eqV_str, eqV_bl, decide_true, reduceCtorEq, not_true_eq_false, not_false_eq_true, Bool.not_eq_true, List.not_mem_nil, false_implies, implies_true, Int.reduceNeg, Int.reduceToNat, Int.reducePow, Int.reduceMul, Int.reduceAdd, draw_i, ix_t0, ix_t1, ix_t2, ix_t3, ix_m3, ix_m4, sn_ball_box, sn_cell_box, sn_cell_ball, sn_ball_cell, sn_box_ball, sn_box_cell, decide_false]; exact q)
theorem int_i {M : Mp} {d : D} {Q : KD} {R} (h : tyOk M d) (q : Q (.bl (intB d)) M) : F_is_int [d] M Q R := ⟨d, rfl, h, q⟩
theorem wp_is_tuple_of : ∀ ds M Q R, F_is_tuple_of ds M Q R → W_is_tuple_of { nx := fun _ M' => Q .non M', rt := Q, xr := lx R } (startE 2 ds) M := by
  rintro ds M Q R ⟨d, n, rfl, h, q⟩
  unfold W_is_tuple_of
  simp (disch := first | assumption | decide) only [wSeq, wNext, wAsg, wgName, wIfS, wB, wOp, wVar, wC, wCall, wCallK, wCons, wNil, wRet, wRetN, wDrop, wTup, wLst, wIf, wAnd, wOr, wNot, wAndV, wOrV, wNotV, wNeg, wChain, fI, fI0, addD, fLt, fLe, fGt, fGe, fIsB, wCB, fAbs, f2I, fInt, fIsq, wPar, wPar3, permD, startE, List.map_cons, List.map_nil, List.cons_append, List.nil_append, List.append_nil, List.length_cons, List.length_nil, List.replicate, List.getElem?_cons_zero, List.getElem?_cons_succ, List.set_cons_zero, List.set_cons_succ, List.getD_cons_zero, List.getD_cons_succ, Nat.reduceAdd, Nat.reduceSub, Nat.zero_add, true_and, and_true, Bool.not_true, Bool.not_false, if_true, if_false, Bool.false_eq_true, reduceIte, decide_eq_true_eq, Bool.not_eq_true', decide_eq_false_iff_not, eqV_int, eqV_str, eqV_bl, decide_true, reduceCtorEq, not_true_eq_false, not_false_eq_true, Bool.not_eq_true, List.not_mem_nil, false_implies, implies_true, Int.reduceNeg, Int.reduceToNat, Int.reducePow, Int.reduceMul, Int.reduceAdd, draw_i, ix_t0, ix_t1, ix_t2, ix_t3, ix_m3, ix_m4, sn_ball_box, sn_cell_box, sn_cell_ball, sn_ball_cell, sn_box_ball, sn_box_cell, decide_false]
  refine isi_tup h ?_
  cases d with
  | tup es =>
    simp (disch := first | assumption | decide) only [wSeq, wNext, wAsg, wgName, wIfS, wB, wOp, wVar, wC, wCall, wCallK, wCons, wNil, wRet, wRetN, wDrop, wTup, wLst, wIf, wAnd, wOr, wNot, wAndV, wOrV, wNotV, wNeg, wChain, fI, fI0, addD, fLt, fLe, fGt, fGe, fIsB, wCB, fAbs, f2I, fInt, fIsq, wPar, wPar3, permD, startE, List.map_cons, List.map_nil, List.cons_append, List.nil_append, List.append_nil, List.length_cons, List.length_nil, List.replicate, List.getElem?_cons_zero, List.getElem?_cons_succ, List.set_cons_zero, List.set_cons_succ, List.getD_cons_zero, List.getD_cons_succ, Nat.reduceAdd, Nat.reduceSub, Nat.zero_add, true_and, and_true, Bool.not_true, Bool.not_false, if_true, if_false, Bool.false_eq_true, reduceIte, decide_eq_true_eq, Bool.not_eq_true', decide_eq_false_iff_not, eqV_int, eqV_str, eqV_bl, decide_true, reduceCtorEq, not_true_eq_false, not_false_eq_true, Bool.not_eq_true, List.not_mem_nil, false_implies, implies_true, Int.reduceNeg, Int.reduceToNat, Int.reducePow, Int.reduceMul, Int.reduceAdd, draw_i, ix_t0, ix_t1, ix_t2, ix_t3, ix_m3, ix_m4, sn_ball_box, sn_cell_box, sn_cell_ball, sn_ball_cell, sn_box_ball, sn_box_cell, decide_false, len_tup]
    exact q
  | _ => simp (disch := first | assumption | decide) only [wSeq, wNext, wAsg, wgName, wIfS, wB, wOp, wVar, wC, wCall, wCallK, wCons, wNil, wRet, wRetN, wDrop, wTup, wLst, wIf, wAnd, wOr, wNot, wAndV, wOrV, wNotV, wNeg, wChain, fI, fI0, addD, fLt, fLe, fGt, fGe, fIsB, wCB, fAbs, f2I, fInt, fIsq, wPar, wPar3, permD, startE, List.map_cons, List.map_nil, List.cons_append, List.nil_append, List.append_nil, List.length_cons, List.length_nil, List.replicate, List.getElem?_cons_zero, List.getElem?_cons_succ, List.set_cons_zero, List.set_cons_succ, List.getD_cons_zero, List.getD_cons_succ, Nat.reduceAdd, Nat.reduceSub, Nat.zero_add, true_and, and_true, Bool.not_true, Bool.not_false, if_true, if_false, Bool.false_eq_true, reduceIte, decide_eq_true_eq, Bool.not_eq_true', decide_eq_false_iff_not, eqV_int, eqV_str, eqV_bl, decide_true, reduceCtorEq, not_true_eq_false, not_false_eq_true, Bool.not_eq_true, List.not_mem_nil, false_implies, implies_true, Int.reduceNeg, Int.reduceToNat, Int.reducePow, Int.reduceMul, Int.reduceAdd, draw_i, ix_t0, ix_t1, ix_t2, ix_t3, ix_m3, ix_m4, sn_ball_box, sn_cell_box, sn_cell_ball, sn_ball_cell, sn_box_ball, sn_box_cell, decide_false]; exact q
theorem tupof_i {M : Mp} {d : D} {n : Int} {Q : KD} {R} (h : tyOk M d) (q : Q (.bl (tupB d n)) M) : F_is_tuple_of [d, .int n] M Q R := ⟨d, n, rfl, h, q⟩
theorem wp_is_vector : ∀ ds M Q R, F_is_vector ds M Q R → W_is_vector { nx := fun _ M' => Q .non M', rt := Q, xr := lx R } (startE 3 ds) M := by
  rintro ds M Q R ⟨d, n, rfl, h, q⟩
  unfold W_is_vector
  simp (disch := first | assumption | decide) only [wSeq, wNext, wAsg, wgName, wIfS, wB, wOp, wVar, wC, wCall, wCallK, wCons, wNil, wRet, wRetN, wDrop, wTup, wLst, wIf, wAnd, wOr, wNot, wAndV, wOrV, wNotV, wNeg, wChain, fI, fI0, addD, fLt, fLe, fGt, fGe, fIsB, wCB, fAbs, f2I, fInt, fIsq, wPar, wPar3, permD, startE, List.map_cons, List.map_nil, List.cons_append, List.nil_append, List.append_nil, List.length_cons, List.length_nil, List.replicate, List.getElem?_cons_zero, List.getElem?_cons_succ, List.set_cons_zero, List.set_cons_succ, List.getD_cons_zero, List.getD_cons_succ, Nat.reduceAdd, Nat.reduceSub, Nat.zero_add, true_and, and_true, Bool.not_true, Bool.not_false, if_true, if_false, Bool.false_eq_true, reduceIte, decide_eq_true_eq, Bool.not_eq_true', decide_eq_false_iff_not, eqV_int, eqV_str, eqV_bl, decide_true, reduceCtorEq, not_true_eq_false, not_false_eq_true, Bool.not_eq_true, List.not_mem_nil, false_implies, implies_true, Int.reduceNeg, Int.reduceToNat, Int.reducePow, Int.reduceMul, Int.reduceAdd, draw_i, ix_t0, ix_t1, ix_t2, ix_t3, ix_m3, ix_m4, sn_ball_box, sn_cell_box, sn_cell_ball, sn_ball_cell, sn_box_ball, sn_box_cell, decide_false]
  refine tupof_i h.ty ?_
  cases d with
  | tup es =>
    have q : Q (.bl (decide ((es.length : Int) = n) && es.all intB)) M := q
    have et : tupB (.tup es) n = decide ((es.length : Int) = n) := rfl
    rw [et]
    by_cases e : (es.length : Int) = n
    · rw [decide_eq_true e] at q ⊢
      simp (disch := first | assumption | decide) only [wSeq, wNext, wAsg, wgName, wIfS, wB, wOp, wVar, wC, wCall, wCallK, wCons, wNil, wRet, wRetN, wDrop, wTup, wLst, wIf, wAnd, wOr, wNot, wAndV, wOrV, wNotV, wNeg, wChain, fI, fI0, addD, fLt, fLe, fGt, fGe, fIsB, wCB, fAbs, f2I, fInt, fIsq, wPar, wPar3, permD, startE, List.map_cons, List.map_nil, List.cons_append, List.nil_append, List.append_nil, List.length_cons, List.length_nil, List.replicate, List.getElem?_cons_zero, List.getElem?_cons_succ, List.set_cons_zero, List.set_cons_succ, List.getD_cons_zero, List.getD_cons_succ, Nat.reduceAdd, Nat.reduceSub, Nat.zero_add, true_and, and_true, Bool.not_true, Bool.not_false, if_true, if_false, Bool.false_eq_true, reduceIte, decide_eq_true_eq, Bool.not_eq_true', decide_eq_false_iff_not, eqV_int, eqV_str, eqV_bl, decide_true, reduceCtorEq, not_true_eq_false, not_false_eq_true, Bool.not_eq_true, List.not_mem_nil, false_implies, implies_true, Int.reduceNeg, Int.reduceToNat, Int.reducePow, Int.reduceMul, Int.reduceAdd, draw_i, ix_t0, ix_t1, ix_t2, ix_t3, ix_m3, ix_m4, sn_ball_box, sn_cell_box, sn_cell_ball, sn_ball_cell, sn_box_ball, sn_box_cell, decide_false, wLc, wiSeq, wipeE]
      refine all_lc intB h.of.1 (fun e he K hK => ?_) ?_
      · simp (disch := first | assumption | decide) only [wSeq, wNext, wAsg, wgName, wIfS, wB, wOp, wVar, wC, wCall, wCallK, wCons, wNil, wRet, wRetN, wDrop, wTup, wLst, wIf, wAnd, wOr, wNot, wAndV, wOrV, wNotV, wNeg, wChain, fI, fI0, addD, fLt, fLe, fGt, fGe, fIsB, wCB, fAbs, f2I, fInt, fIsq, wPar, wPar3, permD, startE, List.map_cons, List.map_nil, List.cons_append, List.nil_append, List.append_nil, List.length_cons, List.length_nil, List.replicate, List.getElem?_cons_zero, List.getElem?_cons_succ, List.set_cons_zero, List.set_cons_succ, List.getD_cons_zero, List.getD_cons_succ, Nat.reduceAdd, Nat.reduceSub, Nat.zero_add, true_and, and_true, Bool.not_true, Bool.not_false, if_true, if_false, Bool.false_eq_true, reduceIte, decide_eq_true_eq, Bool.not_eq_true', decide_eq_false_iff_not, eqV_int, eqV_str, eqV_bl, decide_true, reduceCtorEq, not_true_eq_false, not_false_eq_true, Bool.not_eq_true, List.not_mem_nil, false_implies, implies_true, Int.reduceNeg, Int.reduceToNat, Int.reducePow, Int.reduceMul, Int.reduceAdd, draw_i, ix_t0, ix_t1, ix_t2, ix_t3, ix_m3, ix_m4, sn_ball_box, sn_cell_box, sn_cell_ball, sn_ball_cell, sn_box_ball, sn_box_cell, decide_false]
        exact int_i (h.of.2 e he) hK
      · refine all_bls _ ?_
        rw [Bool.true_and] at q
        rw [List.all_map]
        exact q
    · rw [decide_eq_false e] at q ⊢
      rw [Bool.false_and] at q
      exact q
  | _ => exact q
theorem vec_i {M : Mp} {d : D} {n : Int} {Q : KD} {R} (h : okD M 1 d) (q : Q (.bl (vecB d n)) M) : F_is_vector [d, .int n] M Q R := ⟨d, n, rfl, h, q⟩
theorem wp__law_pick : ∀ ds M Q R, pickF ds M Q R → W__law_pick { nx := fun _ M' => Q .non M', rt := Q, xr := lx R } (startE 2 ds) M := by
  rintro ds M Q R ⟨a, a0, d, es, rfl, hm, hs, h0, h1, q⟩
  unfold W__law_pick
  simp (disch := first | assumption | decide) only [wSeq, wNext, wAsg, wgName, wIfS, wB, wOp, wVar, wC, wCall, wCallK, wCons, wNil, wRet, wRetN, wDrop, wTup, wLst, wIf, wAnd, wOr, wNot, wAndV, wOrV, wNotV, wNeg, wChain, fI, fI0, addD, fLt, fLe, fGt, fGe, fIsB, wCB, fAbs, f2I, fInt, fIsq, wPar, wPar3, permD, startE, List.map_cons, List.map_nil, List.cons_append, List.nil_append, List.append_nil, List.length_cons, List.length_nil, List.replicate, List.getElem?_cons_zero, List.getElem?_cons_succ, List.set_cons_zero, List.set_cons_succ, List.getD_cons_zero, List.getD_cons_succ, Nat.reduceAdd, Nat.reduceSub, Nat.zero_add, true_and, and_true, Bool.not_true, Bool.not_false, if_true, if_false, Bool.false_eq_true, reduceIte, decide_eq_true_eq, Bool.not_eq_true', decide_eq_false_iff_not, eqV_int, eqV_str, eqV_bl, decide_true, reduceCtorEq, not_true_eq_false, not_false_eq_true, Bool.not_eq_true, List.not_mem_nil, false_implies, implies_true, Int.reduceNeg, Int.reduceToNat, Int.reducePow, Int.reduceMul, Int.reduceAdd, draw_i, ix_t0, ix_t1, ix_t2, ix_t3, ix_m3, ix_m4, sn_ball_box, sn_cell_box, sn_cell_ball, sn_ball_cell, sn_box_ball, sn_box_cell, decide_false]
  have fl : ∀ Q' : KD, Q' (.int (es.length : Int)) M → fLen [d] M Q' := fun Q' h => by
    cases d <;> first | exact ⟨es, hs, h⟩ | cases hs
  refine fl _ ?_
  have hl : (0 : Int) < (es.length : Int) := by omega
  have hg : ((es.length : Nat) : Int).natAbs.log2 < 9000 := by
    rw [Int.natAbs_natCast]
    have := Nat.log2_le_self es.length
    have h2 : es.length.log2 < 20 := (Nat.log2_lt (by omega)).mpr (by omega)
    omega
  refine ⟨a, a0, _, rfl, hm, hl, hg, fun k k0 k1 => ?_⟩
  obtain ⟨i, rfl⟩ := Int.eq_ofNat_of_zero_le k0
  have hi : i < es.length := by omega
  have e : atI es (i : Int) = some es[i] := by
    unfold atI ixN
    simp [hi]
  have fx : ∀ Q' : KD, Q' es[i] M → ixD d (.int (i : Int)) M Q' := fun Q' h => by
    cases d <;> first | exact ⟨es, _, hs, e, h⟩ | cases hs
  exact fx _ (q _ (List.getElem_mem hi))
theorem heap_cells {Q : KD} {M : Mp} {sc : Option D} {v2 v3 : Option D} : ∀ (ns acc : List Int), acc.length + ns.length ≤ 63 → (∀ c ∈ acc, 0 ≤ c) → (∀ cs : List Int, cs.length ≤ 63 → (∀ c ∈ cs, 0 ≤ c) → Q (.lst (cs.map .int)) M) →
    wLcL (wgName 1) wYes (wOp addD (wOp (fI CM fun i j => .int (i * j)) (wC (.int 2)) (wCB fAbs (wCons (wVar 1) wNil))) (wCB fInt (wCons (wOp fLt (wVar 1) (wC (.int 0))) wNil))) AnyM [sc, none, v2, v3] (ns.map .int) (acc.map .int) M Q
  | [], acc, hl, hp, q => ⟨True.intro, q acc (by simpa using hl) hp⟩
  | n :: ns, acc, hl, hp, q => by
    refine ⟨True.intro, ?_, ?_⟩
    · rw [List.length_map]
      rw [List.length_cons] at hl
      exact Nat.lt_of_lt_of_le (by omega : acc.length < 63) (by decide)
    · have e : ∀ c : Int, acc.map D.int ++ [.int c] = (acc ++ [c]).map .int := fun c => by rw [List.map_append]; rfl
      simp (disch := first | assumption | decide) only [wSeq, wNext, wAsg, wgName, wIfS, wB, wOp, wVar, wC, wCall, wCallK, wCons, wNil, wRet, wRetN, wDrop, wTup, wLst, wIf, wAnd, wOr, wNot, wAndV, wOrV, wNotV, wNeg, wChain, fI, fI0, addD, fLt, fLe, fGt, fGe, fIsB, wCB, fAbs, f2I, fInt, fIsq, wPar, wPar3, permD, startE, List.map_cons, List.map_nil, List.cons_append, List.nil_append, List.append_nil, List.length_cons, List.length_nil, List.replicate, List.getElem?_cons_zero, List.getElem?_cons_succ, List.set_cons_zero, List.set_cons_succ, List.getD_cons_zero, List.getD_cons_succ, Nat.reduceAdd, Nat.reduceSub, Nat.zero_add, true_and, and_true, Bool.not_true, Bool.not_false, if_true, if_false, Bool.false_eq_true, reduceIte, decide_eq_true_eq, Bool.not_eq_true', decide_eq_false_iff_not, eqV_int, eqV_str, eqV_bl, decide_true, reduceCtorEq, not_true_eq_false, not_false_eq_true, Bool.not_eq_true, List.not_mem_nil, false_implies, implies_true, Int.reduceNeg, Int.reduceToNat, Int.reducePow, Int.reduceMul, Int.reduceAdd, draw_i, ix_t0, ix_t1, ix_t2, ix_t3, ix_m3, ix_m4, sn_ball_box, sn_cell_box, sn_cell_ball, sn_ball_cell, sn_box_ball, sn_box_cell, decide_false, wYes]
      refine ⟨.inl (.inl ⟨by decide, by decide⟩), ?_⟩
      rw [e]
      refine heap_cells ns _ (by rw [List.length_append, List.length_singleton]; rw [List.length_cons] at hl; omega) (fun c hc => ?_) q
      rcases List.mem_append.mp hc with z | z
      · exact hp c z
      · rw [List.mem_singleton.mp z]
        split <;> omega
theorem heap_great {Q : KD} {M : Mp} {v0 v2 v3 : Option D} : ∀ (ns acc : List Int), acc.length + ns.length ≤ 63 → (∀ c ∈ acc, 0 ≤ c) → (∀ c ∈ ns, 0 ≤ c) → (∀ cs : List Int, cs.length ≤ 63 → (∀ c ∈ cs, 0 ≤ c) → Q (.lst (cs.map .int)) M) →
    wLcL (wgName 1) (wB (wOp fGe (wVar 1) (wOp (fI CPow fun i j => .int (i ^ j.toNat)) (wC (.int 10)) (wC (.int 18))))) (wVar 1) AnyM [v0, none, v2, v3] (ns.map .int) (acc.map .int) M Q
  | [], acc, hl, hp, hq, q => ⟨True.intro, q acc (by simpa using hl) hp⟩
  | n :: ns, acc, hl, hp, hq, q => by
    rw [List.length_cons] at hl
    refine ⟨True.intro, ?_, ?_⟩
    · rw [List.length_map]
      exact Nat.lt_of_lt_of_le (by omega : acc.length < 63) (by decide)
    · have e : ∀ c : Int, acc.map D.int ++ [.int c] = (acc ++ [c]).map .int := fun c => by rw [List.map_append]; rfl
      simp (disch := first | assumption | decide) only [wSeq, wNext, wAsg, wgName, wIfS, wB, wOp, wVar, wC, wCall, wCallK, wCons, wNil, wRet, wRetN, wDrop, wTup, wLst, wIf, wAnd, wOr, wNot, wAndV, wOrV, wNotV, wNeg, wChain, fI, fI0, addD, fLt, fLe, fGt, fGe, fIsB, wCB, fAbs, f2I, fInt, fIsq, wPar, wPar3, permD, startE, List.map_cons, List.map_nil, List.cons_append, List.nil_append, List.append_nil, List.length_cons, List.length_nil, List.replicate, List.getElem?_cons_zero, List.getElem?_cons_succ, List.set_cons_zero, List.set_cons_succ, List.getD_cons_zero, List.getD_cons_succ, Nat.reduceAdd, Nat.reduceSub, Nat.zero_add, true_and, and_true, Bool.not_true, Bool.not_false, if_true, if_false, Bool.false_eq_true, reduceIte, decide_eq_true_eq, Bool.not_eq_true', decide_eq_false_iff_not, eqV_int, eqV_str, eqV_bl, decide_true, reduceCtorEq, not_true_eq_false, not_false_eq_true, Bool.not_eq_true, List.not_mem_nil, false_implies, implies_true, Int.reduceNeg, Int.reduceToNat, Int.reducePow, Int.reduceMul, Int.reduceAdd, draw_i, ix_t0, ix_t1, ix_t2, ix_t3, ix_m3, ix_m4, sn_ball_box, sn_cell_box, sn_cell_ball, sn_ball_cell, sn_box_ball, sn_box_cell, decide_false]
      refine ⟨⟨by decide, by decide, by decide⟩, ?_⟩
      have hq2 : ∀ c ∈ ns, 0 ≤ c := fun c hc => hq c (List.mem_cons_of_mem _ hc)
      split
      · rw [e]
        refine heap_great ns _ (by rw [List.length_append, List.length_singleton]; omega) (fun c hc => ?_) hq2 q
        rcases List.mem_append.mp hc with z | z
        · exact hp c z
        · rw [List.mem_singleton.mp z]
          exact hq n List.mem_cons_self
      · exact heap_great ns acc (by omega) hp hq2 q
theorem wp__law_heap : ∀ ds M Q R, F__law_heap ds M Q R → W__law_heap { nx := fun _ M' => Q .non M', rt := Q, xr := lx R } (startE 4 ds) M := by
  rintro ds M Q R ⟨ns, rfl, hn, q⟩
  unfold W__law_heap
  refine seq_gen fun K hK => ?_
  simp (disch := first | assumption | decide) only [wSeq, wNext, wAsg, wgName, wIfS, wB, wOp, wVar, wC, wCall, wCallK, wCons, wNil, wRet, wRetN, wDrop, wTup, wLst, wIf, wAnd, wOr, wNot, wAndV, wOrV, wNotV, wNeg, wChain, fI, fI0, addD, fLt, fLe, fGt, fGe, fIsB, wCB, fAbs, f2I, fInt, fIsq, wPar, wPar3, permD, startE, List.map_cons, List.map_nil, List.cons_append, List.nil_append, List.append_nil, List.length_cons, List.length_nil, List.replicate, List.getElem?_cons_zero, List.getElem?_cons_succ, List.set_cons_zero, List.set_cons_succ, List.getD_cons_zero, List.getD_cons_succ, Nat.reduceAdd, Nat.reduceSub, Nat.zero_add, true_and, and_true, Bool.not_true, Bool.not_false, if_true, if_false, Bool.false_eq_true, reduceIte, decide_eq_true_eq, Bool.not_eq_true', decide_eq_false_iff_not, eqV_int, eqV_str, eqV_bl, decide_true, reduceCtorEq, not_true_eq_false, not_false_eq_true, Bool.not_eq_true, List.not_mem_nil, false_implies, implies_true, Int.reduceNeg, Int.reduceToNat, Int.reducePow, Int.reduceMul, Int.reduceAdd, draw_i, ix_t0, ix_t1, ix_t2, ix_t3, ix_m3, ix_m4, sn_ball_box, sn_cell_box, sn_cell_ball, sn_ball_cell, sn_box_ball, sn_box_cell, decide_false, wLc, wSl, wNoP, wPart, slD, wiSeq, wipeE]
  obtain ⟨ms, em, lm⟩ := cut_ints ns none (some 60)
  refine ⟨_, ⟨0, .inr rfl⟩, rfl, ?_⟩
  rw [em]
  refine heap_cells ms [] (by simp; omega) (fun c hc => by cases hc) fun cs hc hp => ?_
  subst hK
  refine seq_gen fun K hK => ?_
  refine for_gen fun B hB => ?_
  simp (disch := first | assumption | decide) only [wSeq, wNext, wAsg, wgName, wIfS, wB, wOp, wVar, wC, wCall, wCallK, wCons, wNil, wRet, wRetN, wDrop, wTup, wLst, wIf, wAnd, wOr, wNot, wAndV, wOrV, wNotV, wNeg, wChain, fI, fI0, addD, fLt, fLe, fGt, fGe, fIsB, wCB, fAbs, f2I, fInt, fIsq, wPar, wPar3, permD, startE, List.map_cons, List.map_nil, List.cons_append, List.nil_append, List.append_nil, List.length_cons, List.length_nil, List.replicate, List.getElem?_cons_zero, List.getElem?_cons_succ, List.set_cons_zero, List.set_cons_succ, List.getD_cons_zero, List.getD_cons_succ, Nat.reduceAdd, Nat.reduceSub, Nat.zero_add, true_and, and_true, Bool.not_true, Bool.not_false, if_true, if_false, Bool.false_eq_true, reduceIte, decide_eq_true_eq, Bool.not_eq_true', decide_eq_false_iff_not, eqV_int, eqV_str, eqV_bl, decide_true, reduceCtorEq, not_true_eq_false, not_false_eq_true, Bool.not_eq_true, List.not_mem_nil, false_implies, implies_true, Int.reduceNeg, Int.reduceToNat, Int.reducePow, Int.reduceMul, Int.reduceAdd, draw_i, ix_t0, ix_t1, ix_t2, ix_t3, ix_m3, ix_m4, sn_ball_box, sn_cell_box, sn_cell_ball, sn_ball_cell, sn_box_ball, sn_box_cell, decide_false, wFor, wiSeq]
  refine loop_ix (fun i ρ' M' => M' = M ∧ ∃ (v1 : Option D) (s : Int), ρ' = [some (.lst (ns.map .int)), v1, some (.lst (cs.map .int)), some (.int s)] ∧ 0 ≤ s ∧ s < 4294967296) ?_ ?_ ⟨rfl, _, _, rfl, by decide, by decide⟩
  · rintro i d ρ' M' hi ⟨rfl, v1, s, rfl, s0, s1⟩
    refine ⟨True.intro, fun K' hK' => ?_⟩
    obtain ⟨c, rfl⟩ : ∃ c : Int, d = .int c := by
      rw [List.getElem?_map] at hi
      cases e : cs[i]? with
      | none =>
        rw [e] at hi
        cases hi
      | some c =>
        rw [e] at hi
        exact ⟨c, (Option.some.inj hi).symm⟩
    subst hB
    simp (disch := first | assumption | decide) only [wSeq, wNext, wAsg, wgName, wIfS, wB, wOp, wVar, wC, wCall, wCallK, wCons, wNil, wRet, wRetN, wDrop, wTup, wLst, wIf, wAnd, wOr, wNot, wAndV, wOrV, wNotV, wNeg, wChain, fI, fI0, addD, fLt, fLe, fGt, fGe, fIsB, wCB, fAbs, f2I, fInt, fIsq, wPar, wPar3, permD, startE, List.map_cons, List.map_nil, List.cons_append, List.nil_append, List.append_nil, List.length_cons, List.length_nil, List.replicate, List.getElem?_cons_zero, List.getElem?_cons_succ, List.set_cons_zero, List.set_cons_succ, List.getD_cons_zero, List.getD_cons_succ, Nat.reduceAdd, Nat.reduceSub, Nat.zero_add, true_and, and_true, Bool.not_true, Bool.not_false, if_true, if_false, Bool.false_eq_true, reduceIte, decide_eq_true_eq, Bool.not_eq_true', decide_eq_false_iff_not, eqV_int, eqV_str, eqV_bl, decide_true, reduceCtorEq, not_true_eq_false, not_false_eq_true, Bool.not_eq_true, List.not_mem_nil, false_implies, implies_true, Int.reduceNeg, Int.reduceToNat, Int.reducePow, Int.reduceMul, Int.reduceAdd, draw_i, ix_t0, ix_t1, ix_t2, ix_t3, ix_m3, ix_m4, sn_ball_box, sn_cell_box, sn_cell_ball, sn_ball_cell, sn_box_ball, sn_box_cell, decide_false]
    refine ⟨.inl (.inr ⟨by decide, by decide⟩), by decide, by decide, ?_⟩
    exact hK' _ _ ⟨rfl, _, _, rfl, Int.emod_nonneg _ (by decide), Int.lt_trans (Int.emod_lt_of_pos _ (by decide)) (by decide)⟩
  · rintro ρ' M' ⟨rfl, v1, s, rfl, s0, s1⟩
    refine ⟨True.intro, ?_⟩
    show K _ _
    subst hK
    simp (disch := first | assumption | decide) only [wSeq, wNext, wAsg, wgName, wIfS, wB, wOp, wVar, wC, wCall, wCallK, wCons, wNil, wRet, wRetN, wDrop, wTup, wLst, wIf, wAnd, wOr, wNot, wAndV, wOrV, wNotV, wNeg, wChain, fI, fI0, addD, fLt, fLe, fGt, fGe, fIsB, wCB, fAbs, f2I, fInt, fIsq, wPar, wPar3, permD, startE, List.map_cons, List.map_nil, List.cons_append, List.nil_append, List.append_nil, List.length_cons, List.length_nil, List.replicate, List.getElem?_cons_zero, List.getElem?_cons_succ, List.set_cons_zero, List.set_cons_succ, List.getD_cons_zero, List.getD_cons_succ, Nat.reduceAdd, Nat.reduceSub, Nat.zero_add, true_and, and_true, Bool.not_true, Bool.not_false, if_true, if_false, Bool.false_eq_true, reduceIte, decide_eq_true_eq, Bool.not_eq_true', decide_eq_false_iff_not, eqV_int, eqV_str, eqV_bl, decide_true, reduceCtorEq, not_true_eq_false, not_false_eq_true, Bool.not_eq_true, List.not_mem_nil, false_implies, implies_true, Int.reduceNeg, Int.reduceToNat, Int.reducePow, Int.reduceMul, Int.reduceAdd, draw_i, ix_t0, ix_t1, ix_t2, ix_t3, ix_m3, ix_m4, sn_ball_box, sn_cell_box, sn_cell_ball, sn_ball_cell, sn_box_ball, sn_box_cell, decide_false, wDrw, wLc, wiSeq, wipeE]
    refine heap_great cs [] (by simp; omega) (fun c hc => by cases hc) hp fun cs2 hc2 hp2 => ?_
    refine ⟨cs2, s, rfl, rfl, by omega, hp2, s0, s1, fun p q' hp1 hq1 _ => q _ q' p setM_same fun b c hb => by rw [setM_ne (fun z => by rw [z, hq1] at hb; cases hb), setM_ne (fun z => by rw [z, hp1] at hb; cases hb)]; exact hb⟩
end K01
namespace K01
open PySem L2 L3
theorem upo {M M' : Mp} {p : Addr} {c : Cell} (h : M p = none) (u : Up M M') : Up M (setM M' p c) := fun b d e => by
  have hb : b ≠ p := fun z => by
    rw [z, h] at e
    cases e
  rw [setM_ne hb]
  exact u b d e
theorem bad_drop {es : List D} {i : Nat} (h : i < es.length) : firstBad (es.drop i) i = if intB (es.getD i .non) = true then firstBad (es.drop (i + 1)) (i + 1) else some i := by
  rw [List.drop_eq_getElem_cons h, firstBad, List.getD_eq_getElem?_getD, List.getElem?_eq_getElem h]
  rfl
theorem tup_due {d : D} {n : Int} (h : tupB d n = false) : vdue d n = some (-1) := by
  cases d with
  | tup es =>
    have h : decide ((es.length : Int) = n) = false := h
    show (if (es.length : Int) = n then _ else some (-1)) = _
    rw [if_neg (of_decide_eq_false h)]
  | _ => rfl
theorem tup_is {d : D} {n : Int} (h : tupB d n = true) : ∃ es, d = .tup es ∧ (es.length : Int) = n ∧ vdue d n = (firstBad es 0).map fun i : Nat => (i : Int) := by
  cases d with
  | tup es =>
    have h : decide ((es.length : Int) = n) = true := h
    refine ⟨es, rfl, of_decide_eq_true h, ?_⟩
    show (if (es.length : Int) = n then _ else some (-1)) = _
    rw [if_pos (of_decide_eq_true h)]
  | _ => cases h
theorem wp_check_vector : ∀ ds M Q R, F_check_vector ds M Q R → W_check_vector { nx := fun _ M' => Q .non M', rt := Q, xr := lx R } (startE 4 ds) M := by
  rintro ds M Q R ⟨d, n, rfl, hok, q⟩
  unfold W_check_vector
  refine seq_gen fun K hK => ?_
  simp (disch := first | assumption | decide) only [wSeq, wNext, wAsg, wgName, wIfS, wB, wOp, wVar, wC, wCall, wCallK, wCons, wNil, wRet, wRetN, wDrop, wTup, wLst, wIf, wAnd, wOr, wNot, wAndV, wOrV, wNotV, wNeg, wChain, fI, fI0, addD, fLt, fLe, fGt, fGe, fIsB, wCB, fAbs, f2I, fInt, fIsq, wPar, wPar3, permD, startE, List.map_cons, List.map_nil, List.cons_append, List.nil_append, List.append_nil, List.length_cons, List.length_nil, List.replicate, List.getElem?_cons_zero, List.getElem?_cons_succ, List.set_cons_zero, List.set_cons_succ, List.getD_cons_zero, List.getD_cons_succ, Nat.reduceAdd, Nat.reduceSub, Nat.zero_add, true_and, and_true, Bool.not_true, Bool.not_false, if_true, if_false, Bool.false_eq_true, reduceIte, decide_eq_true_eq, Bool.not_eq_true', decide_eq_false_iff_not, eqV_int, eqV_str, eqV_bl, decide_true, reduceCtorEq, not_true_eq_false, not_false_eq_true, Bool.not_eq_true, List.not_mem_nil, false_implies, implies_true, Int.reduceNeg, Int.reduceToNat, Int.reducePow, Int.reduceMul, Int.reduceAdd, draw_i, ix_t0, ix_t1, ix_t2, ix_t3, ix_m3, ix_m4, sn_ball_box, sn_cell_box, sn_cell_ball, sn_ball_cell, sn_box_ball, sn_box_cell, decide_false, wRaise]
  refine tupof_i hok.ty ?_
  simp (disch := first | assumption | decide) only [wSeq, wNext, wAsg, wgName, wIfS, wB, wOp, wVar, wC, wCall, wCallK, wCons, wNil, wRet, wRetN, wDrop, wTup, wLst, wIf, wAnd, wOr, wNot, wAndV, wOrV, wNotV, wNeg, wChain, fI, fI0, addD, fLt, fLe, fGt, fGe, fIsB, wCB, fAbs, f2I, fInt, fIsq, wPar, wPar3, permD, startE, List.map_cons, List.map_nil, List.cons_append, List.nil_append, List.append_nil, List.length_cons, List.length_nil, List.replicate, List.getElem?_cons_zero, List.getElem?_cons_succ, List.set_cons_zero, List.set_cons_succ, List.getD_cons_zero, List.getD_cons_succ, Nat.reduceAdd, Nat.reduceSub, Nat.zero_add, true_and, and_true, Bool.not_true, Bool.not_false, if_true, if_false, Bool.false_eq_true, reduceIte, decide_eq_true_eq, Bool.not_eq_true', decide_eq_false_iff_not, eqV_int, eqV_str, eqV_bl, decide_true, reduceCtorEq, not_true_eq_false, not_false_eq_true, Bool.not_eq_true, List.not_mem_nil, false_implies, implies_true, Int.reduceNeg, Int.reduceToNat, Int.reducePow, Int.reduceMul, Int.reduceAdd, draw_i, ix_t0, ix_t1, ix_t2, ix_t3, ix_m3, ix_m4, sn_ball_box, sn_cell_box, sn_cell_ball, sn_ball_cell, sn_box_ball, sn_box_cell, decide_false]
  by_cases ht : tupB d n = true
  · obtain ⟨es, rfl, hn, hv⟩ := tup_is ht
    rw [hv] at q
    rw [if_neg (by simp [ht])]
    subst hK
    obtain ⟨h1000, hel⟩ := hok.of
    refine for_gen fun B hB => ?_
    simp (disch := first | assumption | decide) only [wSeq, wNext, wAsg, wgName, wIfS, wB, wOp, wVar, wC, wCall, wCallK, wCons, wNil, wRet, wRetN, wDrop, wTup, wLst, wIf, wAnd, wOr, wNot, wAndV, wOrV, wNotV, wNeg, wChain, fI, fI0, addD, fLt, fLe, fGt, fGe, fIsB, wCB, fAbs, f2I, fInt, fIsq, wPar, wPar3, permD, startE, List.map_cons, List.map_nil, List.cons_append, List.nil_append, List.append_nil, List.length_cons, List.length_nil, List.replicate, List.getElem?_cons_zero, List.getElem?_cons_succ, List.set_cons_zero, List.set_cons_succ, List.getD_cons_zero, List.getD_cons_succ, Nat.reduceAdd, Nat.reduceSub, Nat.zero_add, true_and, and_true, Bool.not_true, Bool.not_false, if_true, if_false, Bool.false_eq_true, reduceIte, decide_eq_true_eq, Bool.not_eq_true', decide_eq_false_iff_not, eqV_int, eqV_str, eqV_bl, decide_true, reduceCtorEq, not_true_eq_false, not_false_eq_true, Bool.not_eq_true, List.not_mem_nil, false_implies, implies_true, Int.reduceNeg, Int.reduceToNat, Int.reducePow, Int.reduceMul, Int.reduceAdd, draw_i, ix_t0, ix_t1, ix_t2, ix_t3, ix_m3, ix_m4, sn_ball_box, sn_cell_box, sn_cell_ball, sn_ball_cell, sn_box_ball, sn_box_cell, decide_false, wFor, wiEnum]
    show wLoop _ B AnyM _ ((List.range es.length).map fun (i : Nat) => D.tup [.int (i : Int), es.getD i .non]) _ M
    refine loop_map (fun (i : Nat) => D.tup [.int (i : Int), es.getD i .non]) (List.range es.length) (fun i ρ M' => M' = M ∧ (∃ v2 v3, ρ = [some (.tup es), some (.int n), v2, v3]) ∧ firstBad es 0 = firstBad (es.drop i) i) ?_ ?_ ⟨rfl, ⟨none, none, rfl⟩, rfl⟩
    · rintro i a ρ M' hi hlt ⟨rfl, ⟨v2, v3, rfl⟩, hb⟩
      rw [List.length_range] at hlt
      rw [List.getElem?_range hlt] at hi
      cases hi
      refine ⟨True.intro, fun K2 hK2 => ?_⟩
      rw [bad_drop hlt] at hb
      subst hB
      simp (disch := first | assumption | decide) only [wSeq, wNext, wAsg, wgName, wIfS, wB, wOp, wVar, wC, wCall, wCallK, wCons, wNil, wRet, wRetN, wDrop, wTup, wLst, wIf, wAnd, wOr, wNot, wAndV, wOrV, wNotV, wNeg, wChain, fI, fI0, addD, fLt, fLe, fGt, fGe, fIsB, wCB, fAbs, f2I, fInt, fIsq, wPar, wPar3, permD, startE, List.map_cons, List.map_nil, List.cons_append, List.nil_append, List.append_nil, List.length_cons, List.length_nil, List.replicate, List.getElem?_cons_zero, List.getElem?_cons_succ, List.set_cons_zero, List.set_cons_succ, List.getD_cons_zero, List.getD_cons_succ, Nat.reduceAdd, Nat.reduceSub, Nat.zero_add, true_and, and_true, Bool.not_true, Bool.not_false, if_true, if_false, Bool.false_eq_true, reduceIte, decide_eq_true_eq, Bool.not_eq_true', decide_eq_false_iff_not, eqV_int, eqV_str, eqV_bl, decide_true, reduceCtorEq, not_true_eq_false, not_false_eq_true, Bool.not_eq_true, List.not_mem_nil, false_implies, implies_true, Int.reduceNeg, Int.reduceToNat, Int.reducePow, Int.reduceMul, Int.reduceAdd, draw_i, ix_t0, ix_t1, ix_t2, ix_t3, ix_m3, ix_m4, sn_ball_box, sn_cell_box, sn_cell_ball, sn_ball_cell, sn_box_ball, sn_box_cell, decide_false, wgTup, wgCons, wgNil, wRaise]
      have hm : es.getD i .non ∈ es := by
        rw [List.getD_eq_getElem?_getD, List.getElem?_eq_getElem hlt]
        exact List.getElem_mem hlt
      refine int_i (hel _ hm).ty ?_
      simp (disch := first | assumption | decide) only [wSeq, wNext, wAsg, wgName, wIfS, wB, wOp, wVar, wC, wCall, wCallK, wCons, wNil, wRet, wRetN, wDrop, wTup, wLst, wIf, wAnd, wOr, wNot, wAndV, wOrV, wNotV, wNeg, wChain, fI, fI0, addD, fLt, fLe, fGt, fGe, fIsB, wCB, fAbs, f2I, fInt, fIsq, wPar, wPar3, permD, startE, List.map_cons, List.map_nil, List.cons_append, List.nil_append, List.append_nil, List.length_cons, List.length_nil, List.replicate, List.getElem?_cons_zero, List.getElem?_cons_succ, List.set_cons_zero, List.set_cons_succ, List.getD_cons_zero, List.getD_cons_succ, Nat.reduceAdd, Nat.reduceSub, Nat.zero_add, true_and, and_true, Bool.not_true, Bool.not_false, if_true, if_false, Bool.false_eq_true, reduceIte, decide_eq_true_eq, Bool.not_eq_true', decide_eq_false_iff_not, eqV_int, eqV_str, eqV_bl, decide_true, reduceCtorEq, not_true_eq_false, not_false_eq_true, Bool.not_eq_true, List.not_mem_nil, false_implies, implies_true, Int.reduceNeg, Int.reduceToNat, Int.reducePow, Int.reduceMul, Int.reduceAdd, draw_i, ix_t0, ix_t1, ix_t2, ix_t3, ix_m3, ix_m4, sn_ball_box, sn_cell_box, sn_cell_ball, sn_ball_cell, sn_box_ball, sn_box_cell, decide_false]
      by_cases hi : intB (es.getD i .non) = true
      · rw [if_pos hi] at hb
        rw [if_neg (fun z => by rw [hi] at z; cases z)]
        exact hK2 _ _ ⟨rfl, ⟨_, _, rfl⟩, hb⟩
      · rw [if_neg hi] at hb
        have hi' : intB (es.getD i .non) = false := Bool.eq_false_iff.mpr hi
        rw [if_pos (by rw [hi'])]
        rw [hb] at q
        exact ⟨by decide, fun dx => q⟩
    · rintro ρ M' ⟨rfl, ⟨v2, v3, rfl⟩, hb⟩
      rw [List.length_range, List.drop_length] at hb
      rw [hb] at q
      exact ⟨True.intro, q⟩
  · have ht : tupB d n = false := by simpa using ht
    rw [tup_due ht] at q
    rw [if_pos (by simp [ht])]
    exact ⟨by decide, fun dx => q⟩
theorem chk_i {M : Mp} {d : D} {n : Int} {Q : KD} {R : XF} (hd : okD M 1 d) (q : match vdue d n with | none => Q .non M | some i => R "InvalidVector" (["at"], [.int i]) M) : F_check_vector [d, .int n] M Q R := ⟨d, n, rfl, hd, q⟩
theorem wp__law_heard : ∀ ds M Q R, F__law_heard ds M Q R → W__law_heard { nx := fun _ M' => Q .non M', rt := Q, xr := lx R } (startE 4 ds) M := by
  rintro ds M Q R ⟨d, n, rfl, hok, q⟩
  unfold W__law_heard
  refine seq_gen fun K hK => ?_
  simp (disch := first | assumption | decide) only [wSeq, wNext, wAsg, wgName, wIfS, wB, wOp, wVar, wC, wCall, wCallK, wCons, wNil, wRet, wRetN, wDrop, wTup, wLst, wIf, wAnd, wOr, wNot, wAndV, wOrV, wNotV, wNeg, wChain, fI, fI0, addD, fLt, fLe, fGt, fGe, fIsB, wCB, fAbs, f2I, fInt, fIsq, wPar, wPar3, permD, startE, List.map_cons, List.map_nil, List.cons_append, List.nil_append, List.append_nil, List.length_cons, List.length_nil, List.replicate, List.getElem?_cons_zero, List.getElem?_cons_succ, List.set_cons_zero, List.set_cons_succ, List.getD_cons_zero, List.getD_cons_succ, Nat.reduceAdd, Nat.reduceSub, Nat.zero_add, true_and, and_true, Bool.not_true, Bool.not_false, if_true, if_false, Bool.false_eq_true, reduceIte, decide_eq_true_eq, Bool.not_eq_true', decide_eq_false_iff_not, eqV_int, eqV_str, eqV_bl, decide_true, reduceCtorEq, not_true_eq_false, not_false_eq_true, Bool.not_eq_true, List.not_mem_nil, false_implies, implies_true, Int.reduceNeg, Int.reduceToNat, Int.reducePow, Int.reduceMul, Int.reduceAdd, draw_i, ix_t0, ix_t1, ix_t2, ix_t3, ix_m3, ix_m4, sn_ball_box, sn_cell_box, sn_cell_ball, sn_ball_cell, sn_box_ball, sn_box_cell, decide_false, wTryAs, wAsgX, wCallX]
  refine chk_i hok ?_
  cases hv : vdue d n with
  | none =>
    rw [hv] at q
    dsimp only
    subst hK
    simp (disch := first | assumption | decide) only [wSeq, wNext, wAsg, wgName, wIfS, wB, wOp, wVar, wC, wCall, wCallK, wCons, wNil, wRet, wRetN, wDrop, wTup, wLst, wIf, wAnd, wOr, wNot, wAndV, wOrV, wNotV, wNeg, wChain, fI, fI0, addD, fLt, fLe, fGt, fGe, fIsB, wCB, fAbs, f2I, fInt, fIsq, wPar, wPar3, permD, startE, List.map_cons, List.map_nil, List.cons_append, List.nil_append, List.append_nil, List.length_cons, List.length_nil, List.replicate, List.getElem?_cons_zero, List.getElem?_cons_succ, List.set_cons_zero, List.set_cons_succ, List.getD_cons_zero, List.getD_cons_succ, Nat.reduceAdd, Nat.reduceSub, Nat.zero_add, true_and, and_true, Bool.not_true, Bool.not_false, if_true, if_false, Bool.false_eq_true, reduceIte, decide_eq_true_eq, Bool.not_eq_true', decide_eq_false_iff_not, eqV_int, eqV_str, eqV_bl, decide_true, reduceCtorEq, not_true_eq_false, not_false_eq_true, Bool.not_eq_true, List.not_mem_nil, false_implies, implies_true, Int.reduceNeg, Int.reduceToNat, Int.reducePow, Int.reduceMul, Int.reduceAdd, draw_i, ix_t0, ix_t1, ix_t2, ix_t3, ix_m3, ix_m4, sn_ball_box, sn_cell_box, sn_cell_ball, sn_ball_cell, sn_box_ball, sn_box_cell, decide_false, fIsN]
    exact ⟨by decide, q⟩
  | some i =>
    rw [hv] at q
    intro dx
    have t1 : tab_InvalidVector "InvalidVector" = some true := by decide +kernel
    rw [t1]
    intro a
    have t2 : tab_StoreError "InvalidVector" = some true := by decide +kernel
    have t3 : tab_InvalidItem "InvalidVector" = some false := by decide +kernel
    simp (disch := first | assumption | decide) only [wSeq, wNext, wAsg, wgName, wIfS, wB, wOp, wVar, wC, wCall, wCallK, wCons, wNil, wRet, wRetN, wDrop, wTup, wLst, wIf, wAnd, wOr, wNot, wAndV, wOrV, wNotV, wNeg, wChain, fI, fI0, addD, fLt, fLe, fGt, fGe, fIsB, wCB, fAbs, f2I, fInt, fIsq, wPar, wPar3, permD, startE, List.map_cons, List.map_nil, List.cons_append, List.nil_append, List.append_nil, List.length_cons, List.length_nil, List.replicate, List.getElem?_cons_zero, List.getElem?_cons_succ, List.set_cons_zero, List.set_cons_succ, List.getD_cons_zero, List.getD_cons_succ, Nat.reduceAdd, Nat.reduceSub, Nat.zero_add, true_and, and_true, Bool.not_true, Bool.not_false, if_true, if_false, Bool.false_eq_true, reduceIte, decide_eq_true_eq, Bool.not_eq_true', decide_eq_false_iff_not, eqV_int, eqV_str, eqV_bl, decide_true, reduceCtorEq, not_true_eq_false, not_false_eq_true, Bool.not_eq_true, List.not_mem_nil, false_implies, implies_true, Int.reduceNeg, Int.reduceToNat, Int.reducePow, Int.reduceMul, Int.reduceAdd, draw_i, ix_t0, ix_t1, ix_t2, ix_t3, ix_m3, ix_m4, sn_ball_box, sn_cell_box, sn_cell_ball, sn_ball_cell, sn_box_ball, sn_box_cell, decide_false, wIsX, wXf]
    refine ⟨true, t2, ?_⟩
    simp (disch := first | assumption | decide) only [wSeq, wNext, wAsg, wgName, wIfS, wB, wOp, wVar, wC, wCall, wCallK, wCons, wNil, wRet, wRetN, wDrop, wTup, wLst, wIf, wAnd, wOr, wNot, wAndV, wOrV, wNotV, wNeg, wChain, fI, fI0, addD, fLt, fLe, fGt, fGe, fIsB, wCB, fAbs, f2I, fInt, fIsq, wPar, wPar3, permD, startE, List.map_cons, List.map_nil, List.cons_append, List.nil_append, List.append_nil, List.length_cons, List.length_nil, List.replicate, List.getElem?_cons_zero, List.getElem?_cons_succ, List.set_cons_zero, List.set_cons_succ, List.getD_cons_zero, List.getD_cons_succ, Nat.reduceAdd, Nat.reduceSub, Nat.zero_add, true_and, and_true, Bool.not_true, Bool.not_false, if_true, if_false, Bool.false_eq_true, reduceIte, decide_eq_true_eq, Bool.not_eq_true', decide_eq_false_iff_not, eqV_int, eqV_str, eqV_bl, decide_true, reduceCtorEq, not_true_eq_false, not_false_eq_true, Bool.not_eq_true, List.not_mem_nil, false_implies, implies_true, Int.reduceNeg, Int.reduceToNat, Int.reducePow, Int.reduceMul, Int.reduceAdd, draw_i, ix_t0, ix_t1, ix_t2, ix_t3, ix_m3, ix_m4, sn_ball_box, sn_cell_box, sn_cell_ball, sn_ball_cell, sn_box_ball, sn_box_cell, decide_false]
    refine ⟨false, t3, ?_⟩
    simp (disch := first | assumption | decide) only [wSeq, wNext, wAsg, wgName, wIfS, wB, wOp, wVar, wC, wCall, wCallK, wCons, wNil, wRet, wRetN, wDrop, wTup, wLst, wIf, wAnd, wOr, wNot, wAndV, wOrV, wNotV, wNeg, wChain, fI, fI0, addD, fLt, fLe, fGt, fGe, fIsB, wCB, fAbs, f2I, fInt, fIsq, wPar, wPar3, permD, startE, List.map_cons, List.map_nil, List.cons_append, List.nil_append, List.append_nil, List.length_cons, List.length_nil, List.replicate, List.getElem?_cons_zero, List.getElem?_cons_succ, List.set_cons_zero, List.set_cons_succ, List.getD_cons_zero, List.getD_cons_succ, Nat.reduceAdd, Nat.reduceSub, Nat.zero_add, true_and, and_true, Bool.not_true, Bool.not_false, if_true, if_false, Bool.false_eq_true, reduceIte, decide_eq_true_eq, Bool.not_eq_true', decide_eq_false_iff_not, eqV_int, eqV_str, eqV_bl, decide_true, reduceCtorEq, not_true_eq_false, not_false_eq_true, Bool.not_eq_true, List.not_mem_nil, false_implies, implies_true, Int.reduceNeg, Int.reduceToNat, Int.reducePow, Int.reduceMul, Int.reduceAdd, draw_i, ix_t0, ix_t1, ix_t2, ix_t3, ix_m3, ix_m4, sn_ball_box, sn_cell_box, sn_cell_ball, sn_ball_cell, sn_box_ball, sn_box_cell, decide_false]
    refine ⟨.int i, by simp [List.lookup], ?_⟩
    refine isi_bool rfl ?_
    simp (disch := first | assumption | decide) only [wSeq, wNext, wAsg, wgName, wIfS, wB, wOp, wVar, wC, wCall, wCallK, wCons, wNil, wRet, wRetN, wDrop, wTup, wLst, wIf, wAnd, wOr, wNot, wAndV, wOrV, wNotV, wNeg, wChain, fI, fI0, addD, fLt, fLe, fGt, fGe, fIsB, wCB, fAbs, f2I, fInt, fIsq, wPar, wPar3, permD, startE, List.map_cons, List.map_nil, List.cons_append, List.nil_append, List.append_nil, List.length_cons, List.length_nil, List.replicate, List.getElem?_cons_zero, List.getElem?_cons_succ, List.set_cons_zero, List.set_cons_succ, List.getD_cons_zero, List.getD_cons_succ, Nat.reduceAdd, Nat.reduceSub, Nat.zero_add, true_and, and_true, Bool.not_true, Bool.not_false, if_true, if_false, Bool.false_eq_true, reduceIte, decide_eq_true_eq, Bool.not_eq_true', decide_eq_false_iff_not, eqV_int, eqV_str, eqV_bl, decide_true, reduceCtorEq, not_true_eq_false, not_false_eq_true, Bool.not_eq_true, List.not_mem_nil, false_implies, implies_true, Int.reduceNeg, Int.reduceToNat, Int.reducePow, Int.reduceMul, Int.reduceAdd, draw_i, ix_t0, ix_t1, ix_t2, ix_t3, ix_m3, ix_m4, sn_ball_box, sn_cell_box, sn_cell_ball, sn_ball_cell, sn_box_ball, sn_box_cell, decide_false, wXf]
    refine ⟨.int i, by simp [List.lookup], ?_⟩
    exact ⟨by decide, q⟩
theorem heard_i {M : Mp} {d : D} {n : Int} {Q : KD} {R} (hd : okD M 1 d) (q : Q (heardD (vdue d n)) M) : F__law_heard [d, .int n] M Q R := ⟨d, n, rfl, hd, q⟩
theorem bad_all : ∀ (es : List D) (i : Nat), (es.all intB) = (firstBad es i).isNone
  | [], _ => rfl
  | e :: es, i => by
    rw [List.all_cons, firstBad]
    cases h : intB e with
    | true => rw [if_pos rfl, Bool.true_and]; exact bad_all es (i + 1)
    | false => rfl
theorem vec_due {d : D} {n : Int} : vecB d n = (vdue d n).isNone := by
  by_cases ht : tupB d n = true
  · obtain ⟨es, rfl, hn, hv⟩ := tup_is ht
    rw [hv]
    have e : vecB (.tup es) n = es.all intB := by
      show (decide ((es.length : Int) = n) && es.all intB) = _
      rw [decide_eq_true hn]
      rfl
    rw [e, bad_all es 0]
    cases firstBad es 0 <;> rfl
  · have ht : tupB d n = false := by simpa using ht
    rw [tup_due ht]
    cases d with
    | tup es =>
      show (decide ((es.length : Int) = n) && es.all intB) = _
      rw [show decide ((es.length : Int) = n) = false from ht]
      rfl
    | _ => rfl
theorem ne_str {x : Str} {M : Mp} {Q : KD} (q : Q (.bl false) M) : L3.eqV true (.str x) (.str x) M Q := by
  refine eqV_str.mpr ?_
  rw [decide_eq_true rfl]
  exact q
theorem eq_str {x : Str} {M : Mp} {Q : KD} (q : Q (.bl true) M) : L3.eqV false (.str x) (.str x) M Q := by
  refine eqV_str.mpr ?_
  rw [decide_eq_true rfl]
  exact q
theorem wp__law_right : ∀ ds M Q R, F__law_right ds M Q R → W__law_right { nx := fun _ M' => Q .non M', rt := Q, xr := lx R } (startE 4 ds) M := by
  rintro ds M Q R ⟨d, n, rfl, hok, ⟨k, hk, hs, hc⟩, q⟩
  unfold W__law_right
  have rp : ∀ Q' : KD, Q' (.str (shown (res M d))) M → fRepr [d] M Q' := fun Q' h => ⟨⟨k, hk, hs⟩, hc, h⟩
  have vd := vec_due (d := d) (n := n)
  have vi : ∀ Q' : KD, ∀ R, Q' (.bl (vdue d n).isNone) M → F_is_vector [d, .int n] M Q' R := fun Q' R h => vec_i hok (by rw [vd]; exact h)
  refine seq_gen fun K hK => ?_
  simp (disch := first | assumption | decide) only [wSeq, wNext, wAsg, wgName, wIfS, wB, wOp, wVar, wC, wCall, wCallK, wCons, wNil, wRet, wRetN, wDrop, wTup, wLst, wIf, wAnd, wOr, wNot, wAndV, wOrV, wNotV, wNeg, wChain, fI, fI0, addD, fLt, fLe, fGt, fGe, fIsB, wCB, fAbs, f2I, fInt, fIsq, wPar, wPar3, permD, startE, List.map_cons, List.map_nil, List.cons_append, List.nil_append, List.append_nil, List.length_cons, List.length_nil, List.replicate, List.getElem?_cons_zero, List.getElem?_cons_succ, List.set_cons_zero, List.set_cons_succ, List.getD_cons_zero, List.getD_cons_succ, Nat.reduceAdd, Nat.reduceSub, Nat.zero_add, true_and, and_true, Bool.not_true, Bool.not_false, if_true, if_false, Bool.false_eq_true, reduceIte, decide_eq_true_eq, Bool.not_eq_true', decide_eq_false_iff_not, eqV_int, eqV_str, eqV_bl, decide_true, reduceCtorEq, not_true_eq_false, not_false_eq_true, Bool.not_eq_true, List.not_mem_nil, false_implies, implies_true, Int.reduceNeg, Int.reduceToNat, Int.reducePow, Int.reduceMul, Int.reduceAdd, draw_i, ix_t0, ix_t1, ix_t2, ix_t3, ix_m3, ix_m4, sn_ball_box, sn_cell_box, sn_cell_ball, sn_ball_cell, sn_box_ball, sn_box_cell, decide_false]
  refine rp _ ?_
  subst hK
  refine seq_gen fun K hK => ?_
  simp (disch := first | assumption | decide) only [wSeq, wNext, wAsg, wgName, wIfS, wB, wOp, wVar, wC, wCall, wCallK, wCons, wNil, wRet, wRetN, wDrop, wTup, wLst, wIf, wAnd, wOr, wNot, wAndV, wOrV, wNotV, wNeg, wChain, fI, fI0, addD, fLt, fLe, fGt, fGe, fIsB, wCB, fAbs, f2I, fInt, fIsq, wPar, wPar3, permD, startE, List.map_cons, List.map_nil, List.cons_append, List.nil_append, List.append_nil, List.length_cons, List.length_nil, List.replicate, List.getElem?_cons_zero, List.getElem?_cons_succ, List.set_cons_zero, List.set_cons_succ, List.getD_cons_zero, List.getD_cons_succ, Nat.reduceAdd, Nat.reduceSub, Nat.zero_add, true_and, and_true, Bool.not_true, Bool.not_false, if_true, if_false, Bool.false_eq_true, reduceIte, decide_eq_true_eq, Bool.not_eq_true', decide_eq_false_iff_not, eqV_int, eqV_str, eqV_bl, decide_true, reduceCtorEq, not_true_eq_false, not_false_eq_true, Bool.not_eq_true, List.not_mem_nil, false_implies, implies_true, Int.reduceNeg, Int.reduceToNat, Int.reducePow, Int.reduceMul, Int.reduceAdd, draw_i, ix_t0, ix_t1, ix_t2, ix_t3, ix_m3, ix_m4, sn_ball_box, sn_cell_box, sn_cell_ball, sn_ball_cell, sn_box_ball, sn_box_cell, decide_false]
  refine heard_i hok ?_
  cases hv : vdue d n with
  | none =>
    rw [hv] at vi
    simp (disch := first | assumption | decide) only [wSeq, wNext, wAsg, wgName, wIfS, wB, wOp, wVar, wC, wCall, wCallK, wCons, wNil, wRet, wRetN, wDrop, wTup, wLst, wIf, wAnd, wOr, wNot, wAndV, wOrV, wNotV, wNeg, wChain, fI, fI0, addD, fLt, fLe, fGt, fGe, fIsB, wCB, fAbs, f2I, fInt, fIsq, wPar, wPar3, permD, startE, List.map_cons, List.map_nil, List.cons_append, List.nil_append, List.append_nil, List.length_cons, List.length_nil, List.replicate, List.getElem?_cons_zero, List.getElem?_cons_succ, List.set_cons_zero, List.set_cons_succ, List.getD_cons_zero, List.getD_cons_succ, Nat.reduceAdd, Nat.reduceSub, Nat.zero_add, true_and, and_true, Bool.not_true, Bool.not_false, if_true, if_false, Bool.false_eq_true, reduceIte, decide_eq_true_eq, Bool.not_eq_true', decide_eq_false_iff_not, eqV_int, eqV_str, eqV_bl, decide_true, reduceCtorEq, not_true_eq_false, not_false_eq_true, Bool.not_eq_true, List.not_mem_nil, false_implies, implies_true, Int.reduceNeg, Int.reduceToNat, Int.reducePow, Int.reduceMul, Int.reduceAdd, draw_i, ix_t0, ix_t1, ix_t2, ix_t3, ix_m3, ix_m4, sn_ball_box, sn_cell_box, sn_cell_ball, sn_ball_cell, sn_box_ball, sn_box_cell, decide_false, fIsN, optI, heardD]
    refine ⟨by decide, eqV_self (n := 2) (by decide) (show fit 2 (.tup [.str "fine"]) by simp [fit]; decide +kernel) ?_⟩
    simp (disch := first | assumption | decide) only [wSeq, wNext, wAsg, wgName, wIfS, wB, wOp, wVar, wC, wCall, wCallK, wCons, wNil, wRet, wRetN, wDrop, wTup, wLst, wIf, wAnd, wOr, wNot, wAndV, wOrV, wNotV, wNeg, wChain, fI, fI0, addD, fLt, fLe, fGt, fGe, fIsB, wCB, fAbs, f2I, fInt, fIsq, wPar, wPar3, permD, startE, List.map_cons, List.map_nil, List.cons_append, List.nil_append, List.append_nil, List.length_cons, List.length_nil, List.replicate, List.getElem?_cons_zero, List.getElem?_cons_succ, List.set_cons_zero, List.set_cons_succ, List.getD_cons_zero, List.getD_cons_succ, Nat.reduceAdd, Nat.reduceSub, Nat.zero_add, true_and, and_true, Bool.not_true, Bool.not_false, if_true, if_false, Bool.false_eq_true, reduceIte, decide_eq_true_eq, Bool.not_eq_true', decide_eq_false_iff_not, eqV_int, eqV_str, eqV_bl, decide_true, reduceCtorEq, not_true_eq_false, not_false_eq_true, Bool.not_eq_true, List.not_mem_nil, false_implies, implies_true, Int.reduceNeg, Int.reduceToNat, Int.reducePow, Int.reduceMul, Int.reduceAdd, draw_i, ix_t0, ix_t1, ix_t2, ix_t3, ix_m3, ix_m4, sn_ball_box, sn_cell_box, sn_cell_ball, sn_ball_cell, sn_box_ball, sn_box_cell, decide_false]
    subst hK
    refine seq_gen fun K hK => ?_
    simp (disch := first | assumption | decide) only [wSeq, wNext, wAsg, wgName, wIfS, wB, wOp, wVar, wC, wCall, wCallK, wCons, wNil, wRet, wRetN, wDrop, wTup, wLst, wIf, wAnd, wOr, wNot, wAndV, wOrV, wNotV, wNeg, wChain, fI, fI0, addD, fLt, fLe, fGt, fGe, fIsB, wCB, fAbs, f2I, fInt, fIsq, wPar, wPar3, permD, startE, List.map_cons, List.map_nil, List.cons_append, List.nil_append, List.append_nil, List.length_cons, List.length_nil, List.replicate, List.getElem?_cons_zero, List.getElem?_cons_succ, List.set_cons_zero, List.set_cons_succ, List.getD_cons_zero, List.getD_cons_succ, Nat.reduceAdd, Nat.reduceSub, Nat.zero_add, true_and, and_true, Bool.not_true, Bool.not_false, if_true, if_false, Bool.false_eq_true, reduceIte, decide_eq_true_eq, Bool.not_eq_true', decide_eq_false_iff_not, eqV_int, eqV_str, eqV_bl, decide_true, reduceCtorEq, not_true_eq_false, not_false_eq_true, Bool.not_eq_true, List.not_mem_nil, false_implies, implies_true, Int.reduceNeg, Int.reduceToNat, Int.reducePow, Int.reduceMul, Int.reduceAdd, draw_i, ix_t0, ix_t1, ix_t2, ix_t3, ix_m3, ix_m4, sn_ball_box, sn_cell_box, sn_cell_ball, sn_ball_cell, sn_box_ball, sn_box_cell, decide_false, fIsN, optI]
    refine vi _ _ (repr_bl.mpr (repr_bl.mpr (ne_str ?_)))
    simp (disch := first | assumption | decide) only [wSeq, wNext, wAsg, wgName, wIfS, wB, wOp, wVar, wC, wCall, wCallK, wCons, wNil, wRet, wRetN, wDrop, wTup, wLst, wIf, wAnd, wOr, wNot, wAndV, wOrV, wNotV, wNeg, wChain, fI, fI0, addD, fLt, fLe, fGt, fGe, fIsB, wCB, fAbs, f2I, fInt, fIsq, wPar, wPar3, permD, startE, List.map_cons, List.map_nil, List.cons_append, List.nil_append, List.append_nil, List.length_cons, List.length_nil, List.replicate, List.getElem?_cons_zero, List.getElem?_cons_succ, List.set_cons_zero, List.set_cons_succ, List.getD_cons_zero, List.getD_cons_succ, Nat.reduceAdd, Nat.reduceSub, Nat.zero_add, true_and, and_true, Bool.not_true, Bool.not_false, if_true, if_false, Bool.false_eq_true, reduceIte, decide_eq_true_eq, Bool.not_eq_true', decide_eq_false_iff_not, eqV_int, eqV_str, eqV_bl, decide_true, reduceCtorEq, not_true_eq_false, not_false_eq_true, Bool.not_eq_true, List.not_mem_nil, false_implies, implies_true, Int.reduceNeg, Int.reduceToNat, Int.reducePow, Int.reduceMul, Int.reduceAdd, draw_i, ix_t0, ix_t1, ix_t2, ix_t3, ix_m3, ix_m4, sn_ball_box, sn_cell_box, sn_cell_ball, sn_ball_cell, sn_box_ball, sn_box_cell, decide_false]
    refine rp _ (ne_str ?_)
    simp (disch := first | assumption | decide) only [wSeq, wNext, wAsg, wgName, wIfS, wB, wOp, wVar, wC, wCall, wCallK, wCons, wNil, wRet, wRetN, wDrop, wTup, wLst, wIf, wAnd, wOr, wNot, wAndV, wOrV, wNotV, wNeg, wChain, fI, fI0, addD, fLt, fLe, fGt, fGe, fIsB, wCB, fAbs, f2I, fInt, fIsq, wPar, wPar3, permD, startE, List.map_cons, List.map_nil, List.cons_append, List.nil_append, List.append_nil, List.length_cons, List.length_nil, List.replicate, List.getElem?_cons_zero, List.getElem?_cons_succ, List.set_cons_zero, List.set_cons_succ, List.getD_cons_zero, List.getD_cons_succ, Nat.reduceAdd, Nat.reduceSub, Nat.zero_add, true_and, and_true, Bool.not_true, Bool.not_false, if_true, if_false, Bool.false_eq_true, reduceIte, decide_eq_true_eq, Bool.not_eq_true', decide_eq_false_iff_not, eqV_int, eqV_str, eqV_bl, decide_true, reduceCtorEq, not_true_eq_false, not_false_eq_true, Bool.not_eq_true, List.not_mem_nil, false_implies, implies_true, Int.reduceNeg, Int.reduceToNat, Int.reducePow, Int.reduceMul, Int.reduceAdd, draw_i, ix_t0, ix_t1, ix_t2, ix_t3, ix_m3, ix_m4, sn_ball_box, sn_cell_box, sn_cell_ball, sn_ball_cell, sn_box_ball, sn_box_cell, decide_false]
    subst hK
    simp (disch := first | assumption | decide) only [wSeq, wNext, wAsg, wgName, wIfS, wB, wOp, wVar, wC, wCall, wCallK, wCons, wNil, wRet, wRetN, wDrop, wTup, wLst, wIf, wAnd, wOr, wNot, wAndV, wOrV, wNotV, wNeg, wChain, fI, fI0, addD, fLt, fLe, fGt, fGe, fIsB, wCB, fAbs, f2I, fInt, fIsq, wPar, wPar3, permD, startE, List.map_cons, List.map_nil, List.cons_append, List.nil_append, List.append_nil, List.length_cons, List.length_nil, List.replicate, List.getElem?_cons_zero, List.getElem?_cons_succ, List.set_cons_zero, List.set_cons_succ, List.getD_cons_zero, List.getD_cons_succ, Nat.reduceAdd, Nat.reduceSub, Nat.zero_add, true_and, and_true, Bool.not_true, Bool.not_false, if_true, if_false, Bool.false_eq_true, reduceIte, decide_eq_true_eq, Bool.not_eq_true', decide_eq_false_iff_not, eqV_int, eqV_str, eqV_bl, decide_true, reduceCtorEq, not_true_eq_false, not_false_eq_true, Bool.not_eq_true, List.not_mem_nil, false_implies, implies_true, Int.reduceNeg, Int.reduceToNat, Int.reducePow, Int.reduceMul, Int.reduceAdd, draw_i, ix_t0, ix_t1, ix_t2, ix_t3, ix_m3, ix_m4, sn_ball_box, sn_cell_box, sn_cell_ball, sn_ball_cell, sn_box_ball, sn_box_cell, decide_false, fIsN, optI]
    refine vi _ _ ?_
    refine repr_bl.mpr (repr_bl.mpr (eq_str ?_))
    exact q
  | some i =>
    rw [hv] at vi
    simp (disch := first | assumption | decide) only [wSeq, wNext, wAsg, wgName, wIfS, wB, wOp, wVar, wC, wCall, wCallK, wCons, wNil, wRet, wRetN, wDrop, wTup, wLst, wIf, wAnd, wOr, wNot, wAndV, wOrV, wNotV, wNeg, wChain, fI, fI0, addD, fLt, fLe, fGt, fGe, fIsB, wCB, fAbs, f2I, fInt, fIsq, wPar, wPar3, permD, startE, List.map_cons, List.map_nil, List.cons_append, List.nil_append, List.append_nil, List.length_cons, List.length_nil, List.replicate, List.getElem?_cons_zero, List.getElem?_cons_succ, List.set_cons_zero, List.set_cons_succ, List.getD_cons_zero, List.getD_cons_succ, Nat.reduceAdd, Nat.reduceSub, Nat.zero_add, true_and, and_true, Bool.not_true, Bool.not_false, if_true, if_false, Bool.false_eq_true, reduceIte, decide_eq_true_eq, Bool.not_eq_true', decide_eq_false_iff_not, eqV_int, eqV_str, eqV_bl, decide_true, reduceCtorEq, not_true_eq_false, not_false_eq_true, Bool.not_eq_true, List.not_mem_nil, false_implies, implies_true, Int.reduceNeg, Int.reduceToNat, Int.reducePow, Int.reduceMul, Int.reduceAdd, draw_i, ix_t0, ix_t1, ix_t2, ix_t3, ix_m3, ix_m4, sn_ball_box, sn_cell_box, sn_cell_ball, sn_ball_cell, sn_box_ball, sn_box_cell, decide_false, fIsN, optI, heardD]
    refine ⟨by decide, eqV_self (n := 2) (by decide) (show fit 2 (.tup [.str "wrong", .int i]) by simp [fit]; decide +kernel) ?_⟩
    simp (disch := first | assumption | decide) only [wSeq, wNext, wAsg, wgName, wIfS, wB, wOp, wVar, wC, wCall, wCallK, wCons, wNil, wRet, wRetN, wDrop, wTup, wLst, wIf, wAnd, wOr, wNot, wAndV, wOrV, wNotV, wNeg, wChain, fI, fI0, addD, fLt, fLe, fGt, fGe, fIsB, wCB, fAbs, f2I, fInt, fIsq, wPar, wPar3, permD, startE, List.map_cons, List.map_nil, List.cons_append, List.nil_append, List.append_nil, List.length_cons, List.length_nil, List.replicate, List.getElem?_cons_zero, List.getElem?_cons_succ, List.set_cons_zero, List.set_cons_succ, List.getD_cons_zero, List.getD_cons_succ, Nat.reduceAdd, Nat.reduceSub, Nat.zero_add, true_and, and_true, Bool.not_true, Bool.not_false, if_true, if_false, Bool.false_eq_true, reduceIte, decide_eq_true_eq, Bool.not_eq_true', decide_eq_false_iff_not, eqV_int, eqV_str, eqV_bl, decide_true, reduceCtorEq, not_true_eq_false, not_false_eq_true, Bool.not_eq_true, List.not_mem_nil, false_implies, implies_true, Int.reduceNeg, Int.reduceToNat, Int.reducePow, Int.reduceMul, Int.reduceAdd, draw_i, ix_t0, ix_t1, ix_t2, ix_t3, ix_m3, ix_m4, sn_ball_box, sn_cell_box, sn_cell_ball, sn_ball_cell, sn_box_ball, sn_box_cell, decide_false]
    subst hK
    refine seq_gen fun K hK => ?_
    simp (disch := first | assumption | decide) only [wSeq, wNext, wAsg, wgName, wIfS, wB, wOp, wVar, wC, wCall, wCallK, wCons, wNil, wRet, wRetN, wDrop, wTup, wLst, wIf, wAnd, wOr, wNot, wAndV, wOrV, wNotV, wNeg, wChain, fI, fI0, addD, fLt, fLe, fGt, fGe, fIsB, wCB, fAbs, f2I, fInt, fIsq, wPar, wPar3, permD, startE, List.map_cons, List.map_nil, List.cons_append, List.nil_append, List.append_nil, List.length_cons, List.length_nil, List.replicate, List.getElem?_cons_zero, List.getElem?_cons_succ, List.set_cons_zero, List.set_cons_succ, List.getD_cons_zero, List.getD_cons_succ, Nat.reduceAdd, Nat.reduceSub, Nat.zero_add, true_and, and_true, Bool.not_true, Bool.not_false, if_true, if_false, Bool.false_eq_true, reduceIte, decide_eq_true_eq, Bool.not_eq_true', decide_eq_false_iff_not, eqV_int, eqV_str, eqV_bl, decide_true, reduceCtorEq, not_true_eq_false, not_false_eq_true, Bool.not_eq_true, List.not_mem_nil, false_implies, implies_true, Int.reduceNeg, Int.reduceToNat, Int.reducePow, Int.reduceMul, Int.reduceAdd, draw_i, ix_t0, ix_t1, ix_t2, ix_t3, ix_m3, ix_m4, sn_ball_box, sn_cell_box, sn_cell_ball, sn_ball_cell, sn_box_ball, sn_box_cell, decide_false, fIsN, optI]
    refine vi _ _ (repr_bl.mpr (repr_bl.mpr (ne_str ?_)))
    simp (disch := first | assumption | decide) only [wSeq, wNext, wAsg, wgName, wIfS, wB, wOp, wVar, wC, wCall, wCallK, wCons, wNil, wRet, wRetN, wDrop, wTup, wLst, wIf, wAnd, wOr, wNot, wAndV, wOrV, wNotV, wNeg, wChain, fI, fI0, addD, fLt, fLe, fGt, fGe, fIsB, wCB, fAbs, f2I, fInt, fIsq, wPar, wPar3, permD, startE, List.map_cons, List.map_nil, List.cons_append, List.nil_append, List.append_nil, List.length_cons, List.length_nil, List.replicate, List.getElem?_cons_zero, List.getElem?_cons_succ, List.set_cons_zero, List.set_cons_succ, List.getD_cons_zero, List.getD_cons_succ, Nat.reduceAdd, Nat.reduceSub, Nat.zero_add, true_and, and_true, Bool.not_true, Bool.not_false, if_true, if_false, Bool.false_eq_true, reduceIte, decide_eq_true_eq, Bool.not_eq_true', decide_eq_false_iff_not, eqV_int, eqV_str, eqV_bl, decide_true, reduceCtorEq, not_true_eq_false, not_false_eq_true, Bool.not_eq_true, List.not_mem_nil, false_implies, implies_true, Int.reduceNeg, Int.reduceToNat, Int.reducePow, Int.reduceMul, Int.reduceAdd, draw_i, ix_t0, ix_t1, ix_t2, ix_t3, ix_m3, ix_m4, sn_ball_box, sn_cell_box, sn_cell_ball, sn_ball_cell, sn_box_ball, sn_box_cell, decide_false]
    refine rp _ (ne_str ?_)
    simp (disch := first | assumption | decide) only [wSeq, wNext, wAsg, wgName, wIfS, wB, wOp, wVar, wC, wCall, wCallK, wCons, wNil, wRet, wRetN, wDrop, wTup, wLst, wIf, wAnd, wOr, wNot, wAndV, wOrV, wNotV, wNeg, wChain, fI, fI0, addD, fLt, fLe, fGt, fGe, fIsB, wCB, fAbs, f2I, fInt, fIsq, wPar, wPar3, permD, startE, List.map_cons, List.map_nil, List.cons_append, List.nil_append, List.append_nil, List.length_cons, List.length_nil, List.replicate, List.getElem?_cons_zero, List.getElem?_cons_succ, List.set_cons_zero, List.set_cons_succ, List.getD_cons_zero, List.getD_cons_succ, Nat.reduceAdd, Nat.reduceSub, Nat.zero_add, true_and, and_true, Bool.not_true, Bool.not_false, if_true, if_false, Bool.false_eq_true, reduceIte, decide_eq_true_eq, Bool.not_eq_true', decide_eq_false_iff_not, eqV_int, eqV_str, eqV_bl, decide_true, reduceCtorEq, not_true_eq_false, not_false_eq_true, Bool.not_eq_true, List.not_mem_nil, false_implies, implies_true, Int.reduceNeg, Int.reduceToNat, Int.reducePow, Int.reduceMul, Int.reduceAdd, draw_i, ix_t0, ix_t1, ix_t2, ix_t3, ix_m3, ix_m4, sn_ball_box, sn_cell_box, sn_cell_ball, sn_ball_cell, sn_box_ball, sn_box_cell, decide_false]
    subst hK
    simp (disch := first | assumption | decide) only [wSeq, wNext, wAsg, wgName, wIfS, wB, wOp, wVar, wC, wCall, wCallK, wCons, wNil, wRet, wRetN, wDrop, wTup, wLst, wIf, wAnd, wOr, wNot, wAndV, wOrV, wNotV, wNeg, wChain, fI, fI0, addD, fLt, fLe, fGt, fGe, fIsB, wCB, fAbs, f2I, fInt, fIsq, wPar, wPar3, permD, startE, List.map_cons, List.map_nil, List.cons_append, List.nil_append, List.append_nil, List.length_cons, List.length_nil, List.replicate, List.getElem?_cons_zero, List.getElem?_cons_succ, List.set_cons_zero, List.set_cons_succ, List.getD_cons_zero, List.getD_cons_succ, Nat.reduceAdd, Nat.reduceSub, Nat.zero_add, true_and, and_true, Bool.not_true, Bool.not_false, if_true, if_false, Bool.false_eq_true, reduceIte, decide_eq_true_eq, Bool.not_eq_true', decide_eq_false_iff_not, eqV_int, eqV_str, eqV_bl, decide_true, reduceCtorEq, not_true_eq_false, not_false_eq_true, Bool.not_eq_true, List.not_mem_nil, false_implies, implies_true, Int.reduceNeg, Int.reduceToNat, Int.reducePow, Int.reduceMul, Int.reduceAdd, draw_i, ix_t0, ix_t1, ix_t2, ix_t3, ix_m3, ix_m4, sn_ball_box, sn_cell_box, sn_cell_ball, sn_ball_cell, sn_box_ball, sn_box_cell, decide_false, fIsN, optI]
    refine vi _ _ ?_
    refine repr_bl.mpr (repr_bl.mpr (eq_str ?_))
    exact q
theorem right_i {M : Mp} {d : D} {n : Int} {Q : KD} {R} (due : D) (hd : optI (vdue d n) = due) (ho : okD M 1 d) (hs : shO M d) (q : Q (.bl true) M) : F__law_right [d, .int n, due] M Q R := ⟨d, n, by rw [hd], ho, hs, q⟩
theorem wp_is_kind : ∀ ds M Q R, F_is_kind ds M Q R → W_is_kind { nx := fun _ M' => Q .non M', rt := Q, xr := lx R } (startE 1 ds) M := by
  rintro ds M Q R ⟨d, rfl, hd, hs, q⟩
  unfold W_is_kind
  simp (disch := first | assumption | decide) only [wSeq, wNext, wAsg, wgName, wIfS, wB, wOp, wVar, wC, wCall, wCallK, wCons, wNil, wRet, wRetN, wDrop, wTup, wLst, wIf, wAnd, wOr, wNot, wAndV, wOrV, wNotV, wNeg, wChain, fI, fI0, addD, fLt, fLe, fGt, fGe, fIsB, wCB, fAbs, f2I, fInt, fIsq, wPar, wPar3, permD, startE, List.map_cons, List.map_nil, List.cons_append, List.nil_append, List.append_nil, List.length_cons, List.length_nil, List.replicate, List.getElem?_cons_zero, List.getElem?_cons_succ, List.set_cons_zero, List.set_cons_succ, List.getD_cons_zero, List.getD_cons_succ, Nat.reduceAdd, Nat.reduceSub, Nat.zero_add, true_and, and_true, Bool.not_true, Bool.not_false, if_true, if_false, Bool.false_eq_true, reduceIte, decide_eq_true_eq, Bool.not_eq_true', decide_eq_false_iff_not, eqV_int, eqV_str, eqV_bl, decide_true, reduceCtorEq, not_true_eq_false, not_false_eq_true, Bool.not_eq_true, List.not_mem_nil, false_implies, implies_true, Int.reduceNeg, Int.reduceToNat, Int.reducePow, Int.reduceMul, Int.reduceAdd, draw_i, ix_t0, ix_t1, ix_t2, ix_t3, ix_m3, ix_m4, sn_ball_box, sn_cell_box, sn_cell_ball, sn_ball_cell, sn_box_ball, sn_box_cell, decide_false]
  refine isi_str hd ?_
  cases d with
  | str x =>
    refine ⟨_, 1, rfl, by decide, hs x rfl, fun y hy => ?_, ?_⟩
    · simp only [List.mem_cons, List.not_mem_nil, or_false] at hy
      rcases hy with rfl | rfl | rfl | rfl <;> (simp only [fit]; decide +kernel)
    · have es : ∀ a b : Str, eqD (.str a) (.str b) = decide (a = b) := fun a b => by
        show PyData.eqv (.str a) (.str b) = _
        simp [PyData.eqv]
        by_cases h : a = b <;> simp [h]
      have e : inAB false (.str x) [.str "square", .str "sum", .str "most", .str "unlike"] = kindB (.str x) := by
        unfold inAB kindB
        simp only [List.any_cons, List.any_nil, es, Bool.or_false]
        rw [Bool.eq_iff_iff]
        simp only [Bool.false_eq_true, if_false, Bool.or_eq_true, decide_eq_true_eq]
        exact or_congr eq_comm (or_congr eq_comm (or_congr eq_comm eq_comm))
      rw [e]
      exact q
  | _ => exact q
end K01
namespace K01
open PySem L2 L3
theorem up_old {M M' : Mp} {d : Addr} (u : Up M M') (h : M' d = none) : M d = none := by
  cases z : M d with
  | none => rfl
  | some c =>
    have := u d c z
    rw [h] at this
    cases this
def names9 : List Str := ["InvalidVector", "InvalidItem", "InvalidFilter", "InvalidQuestion", "InvalidPaper", "InvalidNumber", "Refused", "Broken", "InvalidText"]
theorem names_in : ∀ y ∈ names9, y ∈ errNames := by decide +kernel
theorem t1 : ∀ y ∈ names9, tab_InvalidVector y = some (decide (y = "InvalidVector")) := by decide +kernel
theorem t2 : ∀ y ∈ names9, tab_InvalidItem y = some (decide (y = "InvalidItem")) := by decide +kernel
theorem t3 : ∀ y ∈ names9, tab_InvalidFilter y = some (decide (y = "InvalidFilter")) := by decide +kernel
theorem t4 : ∀ y ∈ names9, tab_InvalidQuestion y = some (decide (y = "InvalidQuestion")) := by decide +kernel
theorem t5 : ∀ y ∈ names9, tab_InvalidPaper y = some (decide (y = "InvalidPaper")) := by decide +kernel
theorem t6 : ∀ y ∈ names9, tab_InvalidNumber y = some (decide (y = "InvalidNumber")) := by decide +kernel
theorem t7 : ∀ y ∈ names9, tab_Refused y = some (decide (y = "Refused")) := by decide +kernel
theorem t8 : ∀ y ∈ names9, tab_Broken y = some (decide (y = "Broken")) := by decide +kernel
theorem t9 : ∀ y ∈ names9, tab_InvalidText y = some (decide (y = "InvalidText")) := by decide +kernel
theorem t0 : ∀ y ∈ names9, tab_StoreError y = some true := by decide +kernel
def own9 (y : Str) : List Bool := [decide (y = "InvalidVector"), decide (y = "InvalidItem"), decide (y = "InvalidFilter"), decide (y = "InvalidQuestion"), decide (y = "InvalidPaper"), decide (y = "InvalidNumber"), decide (y = "Refused"), decide (y = "Broken"), decide (y = "InvalidText")]
theorem own_one : ∀ y ∈ names9, ((own9 y).filter id).length = 1 := by decide +kernel
theorem lc_cnt {Ok : Mp → Prop} {M : Mp} {ρ : En} {Q : KD} (ok : Ok M) (h8 : 8 < ρ.length) : ∀ (bs : List Bool) (acc : List D), acc.length + bs.length ≤ 1000 → Q (.lst (acc ++ List.replicate (bs.filter id).length (.int 1))) M → wLcL (wgName 8) (wB (wVar 8)) (wC (.int 1)) Ok ρ (bs.map .bl) acc M Q
  | [], acc, _, q => ⟨ok, by simpa using q⟩
  | b :: bs, acc, hl, q => by
    rw [List.length_cons] at hl
    refine ⟨ok, Nat.lt_of_lt_of_le (by omega : acc.length < 1000) (by decide), ?_⟩
    have e8 : (ρ.set 8 (some (.bl b)))[8]? = some (some (.bl b)) := by rw [List.getElem?_set_self h8]
    simp (disch := first | assumption | decide) only [wSeq, wNext, wAsg, wgName, wIfS, wB, wOp, wVar, wC, wCall, wCallK, wCons, wNil, wRet, wRetN, wDrop, wTup, wLst, wIf, wAnd, wOr, wNot, wAndV, wOrV, wNotV, wNeg, wChain, fI, fI0, addD, fLt, fLe, fGt, fGe, fIsB, wCB, fAbs, f2I, fInt, fIsq, wPar, wPar3, permD, startE, List.map_cons, List.map_nil, List.cons_append, List.nil_append, List.append_nil, List.length_cons, List.length_nil, List.replicate, List.getElem?_cons_zero, List.getElem?_cons_succ, List.set_cons_zero, List.set_cons_succ, List.getD_cons_zero, List.getD_cons_succ, Nat.reduceAdd, Nat.reduceSub, Nat.zero_add, true_and, and_true, Bool.not_true, Bool.not_false, if_true, if_false, Bool.false_eq_true, reduceIte, decide_eq_true_eq, Bool.not_eq_true', decide_eq_false_iff_not, eqV_int, eqV_str, eqV_bl, decide_true, reduceCtorEq, not_true_eq_false, not_false_eq_true, Bool.not_eq_true, List.not_mem_nil, false_implies, implies_true, Int.reduceNeg, Int.reduceToNat, Int.reducePow, Int.reduceMul, Int.reduceAdd, draw_i, ix_t0, ix_t1, ix_t2, ix_t3, ix_m3, ix_m4, sn_ball_box, sn_cell_box, sn_cell_ball, sn_ball_cell, sn_box_ball, sn_box_cell, decide_false]
    rw [e8]
    cases b with
    | true =>
      dsimp only
      rw [if_pos rfl]
      refine lc_cnt ok h8 bs _ (by rw [List.length_append, List.length_singleton]; omega) ?_
      rw [List.append_assoc]
      exact q
    | false =>
      dsimp only
      rw [if_neg (by decide)]
      exact lc_cnt ok h8 bs acc (by omega) q
/-- a value that can be shown in any store -/
def plain (d : D) : Prop := shw 5 d ∧ cost d ≤ 1000 ∧ ∀ M, res M d = d
theorem rpd {M : Mp} {d : D} {Q : KD} (h : plain d) (q : Q (.str (shown d)) M) : fRepr [d] M Q := ⟨⟨5, by decide, by rw [h.2.2]; exact h.1⟩, by rw [h.2.2]; exact Nat.le_trans h.2.1 (by decide), by rw [h.2.2]; exact q⟩
theorem ef_i {M : Mp} {ρ : En} {i : Nat} {a : Addr} {y f : Str} {fs : List (Str × D)} {d : D} {Q : KD} (h0 : ρ[i]? = some (some (.tok a))) (h : M a = some (.err y fs)) (hy : y ∈ names9) (hl : fs.lookup f = some d) (q : Q d M) : wEf f errNames (wVar i) ρ M Q := by
  unfold wEf wVar
  rw [h0]
  exact ⟨y, fs, h, names_in y hy, d, hl, q⟩
theorem is_i {M : Mp} {ρ : En} {i : Nat} {a : Addr} {y : Str} {fs : List (Str × D)} {b : Bool} {tab : Str → Option Bool} {Q : KD} (h0 : ρ[i]? = some (some (.tok a))) (h : M a = some (.err y fs)) (hy : y ∈ names9) (ht : tab y = some b) (q : Q (.bl b) M) : wIsEv errNames tab (wVar i) ρ M Q := by
  unfold wIsEv wVar
  rw [h0]
  exact ⟨y, fs, h, names_in y hy, b, ht, q⟩
theorem wp__law_errors_right : ∀ ds M Q R, F__law_errors_right ds M Q R → W__law_errors_right { nx := fun _ M' => Q .non M', rt := Q, xr := lx R } (startE 9 ds) M := by
  rintro ds M Q R ⟨a, a0, rfl, hm, q⟩
  unfold W__law_errors_right
  refine seq_gen fun K hK => ?_
  simp (disch := first | assumption | decide) only [wSeq, wNext, wAsg, wgName, wIfS, wB, wOp, wVar, wC, wCall, wCallK, wCons, wNil, wRet, wRetN, wDrop, wTup, wLst, wIf, wAnd, wOr, wNot, wAndV, wOrV, wNotV, wNeg, wChain, fI, fI0, addD, fLt, fLe, fGt, fGe, fIsB, wCB, fAbs, f2I, fInt, fIsq, wPar, wPar3, permD, startE, List.map_cons, List.map_nil, List.cons_append, List.nil_append, List.append_nil, List.length_cons, List.length_nil, List.replicate, List.getElem?_cons_zero, List.getElem?_cons_succ, List.set_cons_zero, List.set_cons_succ, List.getD_cons_zero, List.getD_cons_succ, Nat.reduceAdd, Nat.reduceSub, Nat.zero_add, true_and, and_true, Bool.not_true, Bool.not_false, if_true, if_false, Bool.false_eq_true, reduceIte, decide_eq_true_eq, Bool.not_eq_true', decide_eq_false_iff_not, eqV_int, eqV_str, eqV_bl, decide_true, reduceCtorEq, not_true_eq_false, not_false_eq_true, Bool.not_eq_true, List.not_mem_nil, false_implies, implies_true, Int.reduceNeg, Int.reduceToNat, Int.reducePow, Int.reduceMul, Int.reduceAdd, draw_i, ix_t0, ix_t1, ix_t2, ix_t3, ix_m3, ix_m4, sn_ball_box, sn_cell_box, sn_cell_ball, sn_ball_cell, sn_box_ball, sn_box_cell, decide_false, wLc, wiRange1, wipeE]
  refine ⟨by decide, by decide, ?_⟩
  refine lc_any (fun _ y => plain y) True.intro _ [] (by rw [intsD_len]; decide) (fun d hd K2 hK2 => ?_) fun ys hy1 hy2 => ?_
  · simp (disch := first | assumption | decide) only [wSeq, wNext, wAsg, wgName, wIfS, wB, wOp, wVar, wC, wCall, wCallK, wCons, wNil, wRet, wRetN, wDrop, wTup, wLst, wIf, wAnd, wOr, wNot, wAndV, wOrV, wNotV, wNeg, wChain, fI, fI0, addD, fLt, fLe, fGt, fGe, fIsB, wCB, fAbs, f2I, fInt, fIsq, wPar, wPar3, permD, startE, List.map_cons, List.map_nil, List.cons_append, List.nil_append, List.append_nil, List.length_cons, List.length_nil, List.replicate, List.getElem?_cons_zero, List.getElem?_cons_succ, List.set_cons_zero, List.set_cons_succ, List.getD_cons_zero, List.getD_cons_succ, Nat.reduceAdd, Nat.reduceSub, Nat.zero_add, true_and, and_true, Bool.not_true, Bool.not_false, if_true, if_false, Bool.false_eq_true, reduceIte, decide_eq_true_eq, Bool.not_eq_true', decide_eq_false_iff_not, eqV_int, eqV_str, eqV_bl, decide_true, reduceCtorEq, not_true_eq_false, not_false_eq_true, Bool.not_eq_true, List.not_mem_nil, false_implies, implies_true, Int.reduceNeg, Int.reduceToNat, Int.reducePow, Int.reduceMul, Int.reduceAdd, draw_i, ix_t0, ix_t1, ix_t2, ix_t3, ix_m3, ix_m4, sn_ball_box, sn_cell_box, sn_cell_ball, sn_ball_cell, sn_box_ball, sn_box_cell, decide_false]
    refine ⟨by decide, by decide, by decide, pick_q hm rfl (by decide) (by decide) fun x hx => hK2 x ?_⟩
    simp only [List.mem_cons, List.not_mem_nil, or_false] at hx
    have i3 : ∀ i : Int, i.natAbs < 100 → plain (.int i) := fun i h => ⟨Nat.lt_of_lt_of_le h (by decide), by show 210 ≤ 1000; decide, fun _ => rfl⟩
    rcases hx with rfl | rfl | rfl | rfl | rfl | rfl | rfl
    · exact i3 _ (by decide)
    · exact i3 _ (by decide)
    · exact ⟨True.intro, by show 5 ≤ 1000; decide, fun _ => rfl⟩
    · exact ⟨by show PySem.PyData.strOk _ = true; decide +kernel, by show 10 * _ + 4 ≤ 1000; decide +kernel, fun _ => rfl⟩
    · exact ⟨vec_shw (n := 4) (p := 2) (B := 100) (v := [1, 2]) ⟨rfl, fun a ha => by simp only [List.mem_cons, List.not_mem_nil, or_false] at ha; rcases ha with rfl | rfl <;> decide⟩ (by decide), by show 210 + 2 + (210 + 2 + 0) + 4 ≤ 1000; decide, fun _ => rfl⟩
    · exact ⟨fun d hd => (nomatch hd), by show 0 + 4 ≤ 1000; decide, fun _ => rfl⟩
    · exact ⟨True.intro, by show 5 ≤ 1000; decide, fun _ => rfl⟩
  rw [List.nil_append]
  rw [intsD_len] at hy1
  match ys, hy1 with
  | [x0, x1], _ =>
    have p0 : plain x0 := (hy2 0 x0 rfl).elim fun _ h => h.2
    have p1 : plain x1 := (hy2 1 x1 rfl).elim fun _ h => h.2
    subst hK
    refine seq_gen fun K hK => ?_
    simp (disch := first | assumption | decide) only [wSeq, wNext, wAsg, wgName, wIfS, wB, wOp, wVar, wC, wCall, wCallK, wCons, wNil, wRet, wRetN, wDrop, wTup, wLst, wIf, wAnd, wOr, wNot, wAndV, wOrV, wNotV, wNeg, wChain, fI, fI0, addD, fLt, fLe, fGt, fGe, fIsB, wCB, fAbs, f2I, fInt, fIsq, wPar, wPar3, permD, startE, List.map_cons, List.map_nil, List.cons_append, List.nil_append, List.append_nil, List.length_cons, List.length_nil, List.replicate, List.getElem?_cons_zero, List.getElem?_cons_succ, List.set_cons_zero, List.set_cons_succ, List.getD_cons_zero, List.getD_cons_succ, Nat.reduceAdd, Nat.reduceSub, Nat.zero_add, true_and, and_true, Bool.not_true, Bool.not_false, if_true, if_false, Bool.false_eq_true, reduceIte, decide_eq_true_eq, Bool.not_eq_true', decide_eq_false_iff_not, eqV_int, eqV_str, eqV_bl, decide_true, reduceCtorEq, not_true_eq_false, not_false_eq_true, Bool.not_eq_true, List.not_mem_nil, false_implies, implies_true, Int.reduceNeg, Int.reduceToNat, Int.reducePow, Int.reduceMul, Int.reduceAdd, draw_i, ix_t0, ix_t1, ix_t2, ix_t3, ix_m3, ix_m4, sn_ball_box, sn_cell_box, sn_cell_ball, sn_ball_cell, sn_box_ball, sn_box_cell, decide_false, wErr, wErrK]
    have g0 : ∀ {M : Mp} {Q : KD}, Q x0 M → ixD (.lst [x0, x1]) (.int 0) M Q := fun q => ⟨_, _, rfl, rfl, q⟩
    have g1 : ∀ {M : Mp} {Q : KD}, Q x1 M → ixD (.lst [x0, x1]) (.int 1) M Q := fun q => ⟨_, _, rfl, rfl, q⟩
    refine g0 ?_
    refine ⟨by decide, fun e1 n1 => ?_⟩
    skip
    generalize hM1 : setM M e1 _ = M1
    have h1 : M1 e1 = some (.err "InvalidVector" [("at", x0)]) := by rw [← hM1, setM_same]; rfl
    have u1 : Up M M1 := hM1 ▸ Up.set n1
    clear hM1
    refine g0 ?_
    refine fun e2 n2 => ?_
    refine ⟨[x0], rfl, rfl, ?_⟩
    generalize hM2 : setM M1 e2 _ = M2
    have h2 : M2 e2 = some (.err "InvalidItem" [("at", x0)]) := by rw [← hM2, setM_same]; rfl
    have u2 : Up M1 M2 := hM2 ▸ Up.set n2
    clear hM2
    refine g0 ?_
    refine ⟨by decide, fun e3 n3 => ?_⟩
    skip
    generalize hM3 : setM M2 e3 _ = M3
    have h3 : M3 e3 = some (.err "InvalidFilter" [("at", x0)]) := by rw [← hM3, setM_same]; rfl
    have u3 : Up M2 M3 := hM3 ▸ Up.set n3
    clear hM3
    refine g0 ?_
    refine fun e4 n4 => ?_
    refine ⟨[x0], rfl, rfl, ?_⟩
    generalize hM4 : setM M3 e4 _ = M4
    have h4 : M4 e4 = some (.err "InvalidQuestion" [("at", x0)]) := by rw [← hM4, setM_same]; rfl
    have u4 : Up M3 M4 := hM4 ▸ Up.set n4
    clear hM4
    refine g0 ?_
    refine ⟨by decide, fun e5 n5 => ?_⟩
    skip
    generalize hM5 : setM M4 e5 _ = M5
    have h5 : M5 e5 = some (.err "InvalidPaper" [("at", x0)]) := by rw [← hM5, setM_same]; rfl
    have u5 : Up M4 M5 := hM5 ▸ Up.set n5
    clear hM5
    have all5 : ∀ d ∈ [D.tok e1, D.tok e2, D.tok e3, D.tok e4, D.tok e5], ∃ e y, d = .tok e ∧ y ∈ names9 ∧ M5 e = some (.err y [("at", x0)]) := fun d hd => by
      simp only [List.mem_cons, List.not_mem_nil, or_false] at hd
      rcases hd with rfl | rfl | rfl | rfl | rfl
      · exact ⟨_, "InvalidVector", rfl, by decide +kernel, u5 _ _ (u4 _ _ (u3 _ _ (u2 _ _ h1)))⟩
      · exact ⟨_, "InvalidItem", rfl, by decide +kernel, u5 _ _ (u4 _ _ (u3 _ _ h2))⟩
      · exact ⟨_, "InvalidFilter", rfl, by decide +kernel, u5 _ _ (u4 _ _ h3)⟩
      · exact ⟨_, "InvalidQuestion", rfl, by decide +kernel, u5 _ _ h4⟩
      · exact ⟨_, "InvalidPaper", rfl, by decide +kernel, h5⟩
    have uu5 : Up M M5 := u1.trans (u2.trans (u3.trans (u4.trans u5)))
    clear u1 u2 u3 u4 u5 h1 h2 h3 h4 h5 n1 n2 n3 n4 n5
    refine ⟨by decide, ?_⟩
    generalize em : [D.tok e1, D.tok e2, D.tok e3, D.tok e4, D.tok e5] = made at all5 ⊢
    subst hK
    refine seq_gen fun K hK => ?_
    refine for_gen fun B hB => ?_
    simp (disch := first | assumption | decide) only [wSeq, wNext, wAsg, wgName, wIfS, wB, wOp, wVar, wC, wCall, wCallK, wCons, wNil, wRet, wRetN, wDrop, wTup, wLst, wIf, wAnd, wOr, wNot, wAndV, wOrV, wNotV, wNeg, wChain, fI, fI0, addD, fLt, fLe, fGt, fGe, fIsB, wCB, fAbs, f2I, fInt, fIsq, wPar, wPar3, permD, startE, List.map_cons, List.map_nil, List.cons_append, List.nil_append, List.append_nil, List.length_cons, List.length_nil, List.replicate, List.getElem?_cons_zero, List.getElem?_cons_succ, List.set_cons_zero, List.set_cons_succ, List.getD_cons_zero, List.getD_cons_succ, Nat.reduceAdd, Nat.reduceSub, Nat.zero_add, true_and, and_true, Bool.not_true, Bool.not_false, if_true, if_false, Bool.false_eq_true, reduceIte, decide_eq_true_eq, Bool.not_eq_true', decide_eq_false_iff_not, eqV_int, eqV_str, eqV_bl, decide_true, reduceCtorEq, not_true_eq_false, not_false_eq_true, Bool.not_eq_true, List.not_mem_nil, false_implies, implies_true, Int.reduceNeg, Int.reduceToNat, Int.reducePow, Int.reduceMul, Int.reduceAdd, draw_i, ix_t0, ix_t1, ix_t2, ix_t3, ix_m3, ix_m4, sn_ball_box, sn_cell_box, sn_cell_ball, sn_ball_cell, sn_box_ball, sn_box_cell, decide_false, wFor, wiSeq]
    refine loop_ix (fun i ρ' M' => M' = M5 ∧ ∃ v3 : Option D, ρ' = [some (.tok a), some (.lst [x0, x1]), some (.lst made), v3, none, none, none, none, none]) ?_ ?_ ⟨rfl, none, rfl⟩
    · rintro i d ρ' M' hi ⟨rfl, v3, rfl⟩
      obtain ⟨e, y, rfl, hy, he⟩ := all5 d (List.mem_of_getElem? hi)
      refine ⟨True.intro, fun K2 hK2 => ?_⟩
      subst hB
      simp (disch := first | assumption | decide) only [wSeq, wNext, wAsg, wgName, wIfS, wB, wOp, wVar, wC, wCall, wCallK, wCons, wNil, wRet, wRetN, wDrop, wTup, wLst, wIf, wAnd, wOr, wNot, wAndV, wOrV, wNotV, wNeg, wChain, fI, fI0, addD, fLt, fLe, fGt, fGe, fIsB, wCB, fAbs, f2I, fInt, fIsq, wPar, wPar3, permD, startE, List.map_cons, List.map_nil, List.cons_append, List.nil_append, List.append_nil, List.length_cons, List.length_nil, List.replicate, List.getElem?_cons_zero, List.getElem?_cons_succ, List.set_cons_zero, List.set_cons_succ, List.getD_cons_zero, List.getD_cons_succ, Nat.reduceAdd, Nat.reduceSub, Nat.zero_add, true_and, and_true, Bool.not_true, Bool.not_false, if_true, if_false, Bool.false_eq_true, reduceIte, decide_eq_true_eq, Bool.not_eq_true', decide_eq_false_iff_not, eqV_int, eqV_str, eqV_bl, decide_true, reduceCtorEq, not_true_eq_false, not_false_eq_true, Bool.not_eq_true, List.not_mem_nil, false_implies, implies_true, Int.reduceNeg, Int.reduceToNat, Int.reducePow, Int.reduceMul, Int.reduceAdd, draw_i, ix_t0, ix_t1, ix_t2, ix_t3, ix_m3, ix_m4, sn_ball_box, sn_cell_box, sn_cell_ball, sn_ball_cell, sn_box_ball, sn_box_cell, decide_false]
      refine ef_i rfl he hy rfl ?_
      refine rpd p0 (g0 (rpd p0 (ne_str ?_)))
      simp (disch := first | assumption | decide) only [wSeq, wNext, wAsg, wgName, wIfS, wB, wOp, wVar, wC, wCall, wCallK, wCons, wNil, wRet, wRetN, wDrop, wTup, wLst, wIf, wAnd, wOr, wNot, wAndV, wOrV, wNotV, wNeg, wChain, fI, fI0, addD, fLt, fLe, fGt, fGe, fIsB, wCB, fAbs, f2I, fInt, fIsq, wPar, wPar3, permD, startE, List.map_cons, List.map_nil, List.cons_append, List.nil_append, List.append_nil, List.length_cons, List.length_nil, List.replicate, List.getElem?_cons_zero, List.getElem?_cons_succ, List.set_cons_zero, List.set_cons_succ, List.getD_cons_zero, List.getD_cons_succ, Nat.reduceAdd, Nat.reduceSub, Nat.zero_add, true_and, and_true, Bool.not_true, Bool.not_false, if_true, if_false, Bool.false_eq_true, reduceIte, decide_eq_true_eq, Bool.not_eq_true', decide_eq_false_iff_not, eqV_int, eqV_str, eqV_bl, decide_true, reduceCtorEq, not_true_eq_false, not_false_eq_true, Bool.not_eq_true, List.not_mem_nil, false_implies, implies_true, Int.reduceNeg, Int.reduceToNat, Int.reducePow, Int.reduceMul, Int.reduceAdd, draw_i, ix_t0, ix_t1, ix_t2, ix_t3, ix_m3, ix_m4, sn_ball_box, sn_cell_box, sn_cell_ball, sn_ball_cell, sn_box_ball, sn_box_cell, decide_false]
      exact hK2 _ _ ⟨rfl, _, rfl⟩
    rintro ρ' M' ⟨rfl, v3, rfl⟩
    refine ⟨True.intro, ?_⟩
    show K _ _
    subst hK
    refine seq_gen fun K hK => ?_
    simp (disch := first | assumption | decide) only [wSeq, wNext, wAsg, wgName, wIfS, wB, wOp, wVar, wC, wCall, wCallK, wCons, wNil, wRet, wRetN, wDrop, wTup, wLst, wIf, wAnd, wOr, wNot, wAndV, wOrV, wNotV, wNeg, wChain, fI, fI0, addD, fLt, fLe, fGt, fGe, fIsB, wCB, fAbs, f2I, fInt, fIsq, wPar, wPar3, permD, startE, List.map_cons, List.map_nil, List.cons_append, List.nil_append, List.append_nil, List.length_cons, List.length_nil, List.replicate, List.getElem?_cons_zero, List.getElem?_cons_succ, List.set_cons_zero, List.set_cons_succ, List.getD_cons_zero, List.getD_cons_succ, Nat.reduceAdd, Nat.reduceSub, Nat.zero_add, true_and, and_true, Bool.not_true, Bool.not_false, if_true, if_false, Bool.false_eq_true, reduceIte, decide_eq_true_eq, Bool.not_eq_true', decide_eq_false_iff_not, eqV_int, eqV_str, eqV_bl, decide_true, reduceCtorEq, not_true_eq_false, not_false_eq_true, Bool.not_eq_true, List.not_mem_nil, false_implies, implies_true, Int.reduceNeg, Int.reduceToNat, Int.reducePow, Int.reduceMul, Int.reduceAdd, draw_i, ix_t0, ix_t1, ix_t2, ix_t3, ix_m3, ix_m4, sn_ball_box, sn_cell_box, sn_cell_ball, sn_ball_cell, sn_box_ball, sn_box_cell, decide_false, wErr, wErrK]
    refine g1 ?_
    refine ⟨by decide, fun e6 n6 => ?_⟩
    skip
    generalize hM6 : setM M' e6 _ = M6
    have h6 : M6 e6 = some (.err "InvalidNumber" [("word", x1)]) := by rw [← hM6, setM_same]; rfl
    have u6 : Up M' M6 := hM6 ▸ Up.set n6
    clear hM6
    refine g1 ?_
    refine fun e7 n7 => ?_
    refine ⟨[x1], rfl, rfl, ?_⟩
    generalize hM7 : setM M6 e7 _ = M7
    have h7 : M7 e7 = some (.err "Refused" [("word", x1)]) := by rw [← hM7, setM_same]; rfl
    have u7 : Up M6 M7 := hM7 ▸ Up.set n7
    clear hM7
    refine g1 ?_
    refine ⟨by decide, fun e8 n8 => ?_⟩
    skip
    generalize hM8 : setM M7 e8 _ = M8
    have h8 : M8 e8 = some (.err "Broken" [("word", x1)]) := by rw [← hM8, setM_same]; rfl
    have u8 : Up M7 M8 := hM8 ▸ Up.set n8
    clear hM8
    have all3 : ∀ d ∈ [D.tok e6, D.tok e7, D.tok e8], ∃ e y, d = .tok e ∧ y ∈ names9 ∧ M8 e = some (.err y [("word", x1)]) := fun d hd => by
      simp only [List.mem_cons, List.not_mem_nil, or_false] at hd
      rcases hd with rfl | rfl | rfl
      · exact ⟨_, "InvalidNumber", rfl, by decide +kernel, u8 _ _ (u7 _ _ h6)⟩
      · exact ⟨_, "Refused", rfl, by decide +kernel, u8 _ _ h7⟩
      · exact ⟨_, "Broken", rfl, by decide +kernel, h8⟩
    have uu8 : Up M' M8 := u6.trans (u7.trans u8)
    clear u6 u7 u8 h6 h7 h8 n6 n7 n8
    refine ⟨by decide, ?_⟩
    generalize ew : [D.tok e6, D.tok e7, D.tok e8] = worded at all3 ⊢
    subst hK
    refine seq_gen fun K hK => ?_
    refine for_gen fun B hB => ?_
    simp (disch := first | assumption | decide) only [wSeq, wNext, wAsg, wgName, wIfS, wB, wOp, wVar, wC, wCall, wCallK, wCons, wNil, wRet, wRetN, wDrop, wTup, wLst, wIf, wAnd, wOr, wNot, wAndV, wOrV, wNotV, wNeg, wChain, fI, fI0, addD, fLt, fLe, fGt, fGe, fIsB, wCB, fAbs, f2I, fInt, fIsq, wPar, wPar3, permD, startE, List.map_cons, List.map_nil, List.cons_append, List.nil_append, List.append_nil, List.length_cons, List.length_nil, List.replicate, List.getElem?_cons_zero, List.getElem?_cons_succ, List.set_cons_zero, List.set_cons_succ, List.getD_cons_zero, List.getD_cons_succ, Nat.reduceAdd, Nat.reduceSub, Nat.zero_add, true_and, and_true, Bool.not_true, Bool.not_false, if_true, if_false, Bool.false_eq_true, reduceIte, decide_eq_true_eq, Bool.not_eq_true', decide_eq_false_iff_not, eqV_int, eqV_str, eqV_bl, decide_true, reduceCtorEq, not_true_eq_false, not_false_eq_true, Bool.not_eq_true, List.not_mem_nil, false_implies, implies_true, Int.reduceNeg, Int.reduceToNat, Int.reducePow, Int.reduceMul, Int.reduceAdd, draw_i, ix_t0, ix_t1, ix_t2, ix_t3, ix_m3, ix_m4, sn_ball_box, sn_cell_box, sn_cell_ball, sn_ball_cell, sn_box_ball, sn_box_cell, decide_false, wFor, wiSeq]
    refine loop_ix (fun i ρ' M2 => M2 = M8 ∧ ∃ v3 : Option D, ρ' = [some (.tok a), some (.lst [x0, x1]), some (.lst made), v3, some (.lst worded), none, none, none, none]) ?_ ?_ ⟨rfl, v3, rfl⟩
    · rintro i d ρ' M2 hi ⟨rfl, v3, rfl⟩
      obtain ⟨e, y, rfl, hy, he⟩ := all3 d (List.mem_of_getElem? hi)
      refine ⟨True.intro, fun K2 hK2 => ?_⟩
      subst hB
      simp (disch := first | assumption | decide) only [wSeq, wNext, wAsg, wgName, wIfS, wB, wOp, wVar, wC, wCall, wCallK, wCons, wNil, wRet, wRetN, wDrop, wTup, wLst, wIf, wAnd, wOr, wNot, wAndV, wOrV, wNotV, wNeg, wChain, fI, fI0, addD, fLt, fLe, fGt, fGe, fIsB, wCB, fAbs, f2I, fInt, fIsq, wPar, wPar3, permD, startE, List.map_cons, List.map_nil, List.cons_append, List.nil_append, List.append_nil, List.length_cons, List.length_nil, List.replicate, List.getElem?_cons_zero, List.getElem?_cons_succ, List.set_cons_zero, List.set_cons_succ, List.getD_cons_zero, List.getD_cons_succ, Nat.reduceAdd, Nat.reduceSub, Nat.zero_add, true_and, and_true, Bool.not_true, Bool.not_false, if_true, if_false, Bool.false_eq_true, reduceIte, decide_eq_true_eq, Bool.not_eq_true', decide_eq_false_iff_not, eqV_int, eqV_str, eqV_bl, decide_true, reduceCtorEq, not_true_eq_false, not_false_eq_true, Bool.not_eq_true, List.not_mem_nil, false_implies, implies_true, Int.reduceNeg, Int.reduceToNat, Int.reducePow, Int.reduceMul, Int.reduceAdd, draw_i, ix_t0, ix_t1, ix_t2, ix_t3, ix_m3, ix_m4, sn_ball_box, sn_cell_box, sn_cell_ball, sn_ball_cell, sn_box_ball, sn_box_cell, decide_false]
      refine ef_i rfl he hy rfl ?_
      refine rpd p1 (g1 (rpd p1 (ne_str ?_)))
      simp (disch := first | assumption | decide) only [wSeq, wNext, wAsg, wgName, wIfS, wB, wOp, wVar, wC, wCall, wCallK, wCons, wNil, wRet, wRetN, wDrop, wTup, wLst, wIf, wAnd, wOr, wNot, wAndV, wOrV, wNotV, wNeg, wChain, fI, fI0, addD, fLt, fLe, fGt, fGe, fIsB, wCB, fAbs, f2I, fInt, fIsq, wPar, wPar3, permD, startE, List.map_cons, List.map_nil, List.cons_append, List.nil_append, List.append_nil, List.length_cons, List.length_nil, List.replicate, List.getElem?_cons_zero, List.getElem?_cons_succ, List.set_cons_zero, List.set_cons_succ, List.getD_cons_zero, List.getD_cons_succ, Nat.reduceAdd, Nat.reduceSub, Nat.zero_add, true_and, and_true, Bool.not_true, Bool.not_false, if_true, if_false, Bool.false_eq_true, reduceIte, decide_eq_true_eq, Bool.not_eq_true', decide_eq_false_iff_not, eqV_int, eqV_str, eqV_bl, decide_true, reduceCtorEq, not_true_eq_false, not_false_eq_true, Bool.not_eq_true, List.not_mem_nil, false_implies, implies_true, Int.reduceNeg, Int.reduceToNat, Int.reducePow, Int.reduceMul, Int.reduceAdd, draw_i, ix_t0, ix_t1, ix_t2, ix_t3, ix_m3, ix_m4, sn_ball_box, sn_cell_box, sn_cell_ball, sn_ball_cell, sn_box_ball, sn_box_cell, decide_false]
      exact hK2 _ _ ⟨rfl, _, rfl⟩
    rintro ρ' M2 ⟨rfl, v3, rfl⟩
    refine ⟨True.intro, ?_⟩
    show K _ _
    subst hK
    refine seq_gen fun K hK => ?_
    simp (disch := first | assumption | decide) only [wSeq, wNext, wAsg, wgName, wIfS, wB, wOp, wVar, wC, wCall, wCallK, wCons, wNil, wRet, wRetN, wDrop, wTup, wLst, wIf, wAnd, wOr, wNot, wAndV, wOrV, wNotV, wNeg, wChain, fI, fI0, addD, fLt, fLe, fGt, fGe, fIsB, wCB, fAbs, f2I, fInt, fIsq, wPar, wPar3, permD, startE, List.map_cons, List.map_nil, List.cons_append, List.nil_append, List.append_nil, List.length_cons, List.length_nil, List.replicate, List.getElem?_cons_zero, List.getElem?_cons_succ, List.set_cons_zero, List.set_cons_succ, List.getD_cons_zero, List.getD_cons_succ, Nat.reduceAdd, Nat.reduceSub, Nat.zero_add, true_and, and_true, Bool.not_true, Bool.not_false, if_true, if_false, Bool.false_eq_true, reduceIte, decide_eq_true_eq, Bool.not_eq_true', decide_eq_false_iff_not, eqV_int, eqV_str, eqV_bl, decide_true, reduceCtorEq, not_true_eq_false, not_false_eq_true, Bool.not_eq_true, List.not_mem_nil, false_implies, implies_true, Int.reduceNeg, Int.reduceToNat, Int.reducePow, Int.reduceMul, Int.reduceAdd, draw_i, ix_t0, ix_t1, ix_t2, ix_t3, ix_m3, ix_m4, sn_ball_box, sn_cell_box, sn_cell_ball, sn_ball_cell, sn_box_ball, sn_box_cell, decide_false, wErrK]
    refine g1 (g0 fun e9 n9 => ?_)
    refine ⟨[x0, x1], rfl, rfl, ?_⟩
    generalize hM9 : setM M2 e9 _ = M9
    have h9 : M9 e9 = some (.err "InvalidText" [("at", x1), ("line", x0)]) := by rw [← hM9, setM_same]; rfl
    have u9 : Up M2 M9 := hM9 ▸ Up.set n9
    clear hM9
    subst hK
    refine seq_gen fun K hK => ?_
    refine if_gen fun A hA => ?_
    simp (disch := first | assumption | decide) only [wSeq, wNext, wAsg, wgName, wIfS, wB, wOp, wVar, wC, wCall, wCallK, wCons, wNil, wRet, wRetN, wDrop, wTup, wLst, wIf, wAnd, wOr, wNot, wAndV, wOrV, wNotV, wNeg, wChain, fI, fI0, addD, fLt, fLe, fGt, fGe, fIsB, wCB, fAbs, f2I, fInt, fIsq, wPar, wPar3, permD, startE, List.map_cons, List.map_nil, List.cons_append, List.nil_append, List.append_nil, List.length_cons, List.length_nil, List.replicate, List.getElem?_cons_zero, List.getElem?_cons_succ, List.set_cons_zero, List.set_cons_succ, List.getD_cons_zero, List.getD_cons_succ, Nat.reduceAdd, Nat.reduceSub, Nat.zero_add, true_and, and_true, Bool.not_true, Bool.not_false, if_true, if_false, Bool.false_eq_true, reduceIte, decide_eq_true_eq, Bool.not_eq_true', decide_eq_false_iff_not, eqV_int, eqV_str, eqV_bl, decide_true, reduceCtorEq, not_true_eq_false, not_false_eq_true, Bool.not_eq_true, List.not_mem_nil, false_implies, implies_true, Int.reduceNeg, Int.reduceToNat, Int.reducePow, Int.reduceMul, Int.reduceAdd, draw_i, ix_t0, ix_t1, ix_t2, ix_t3, ix_m3, ix_m4, sn_ball_box, sn_cell_box, sn_cell_ball, sn_ball_cell, sn_box_ball, sn_box_cell, decide_false]
    refine ef_i rfl h9 (by decide +kernel) rfl (ef_i rfl h9 (by decide +kernel) rfl ?_)
    have rpl : ∀ {M : Mp} {Q : KD}, Q (.str (shown (.lst [x0, x1]))) M → fRepr [.lst [x0, x1]] M Q := fun q => ⟨⟨6, by decide, fun d hd => by
      simp only [List.mem_cons, List.not_mem_nil, or_false] at hd
      rcases hd with rfl | rfl
      · exact p0.1
      · exact p1.1⟩, by
        show cost x0 + 2 + (cost x1 + 2 + 0) + 4 ≤ _
        have := p0.2.1
        have := p1.2.1
        omega, q⟩
    refine ⟨by decide, rpl (rpl (ne_str ?_))⟩
    simp (disch := first | assumption | decide) only [wSeq, wNext, wAsg, wgName, wIfS, wB, wOp, wVar, wC, wCall, wCallK, wCons, wNil, wRet, wRetN, wDrop, wTup, wLst, wIf, wAnd, wOr, wNot, wAndV, wOrV, wNotV, wNeg, wChain, fI, fI0, addD, fLt, fLe, fGt, fGe, fIsB, wCB, fAbs, f2I, fInt, fIsq, wPar, wPar3, permD, startE, List.map_cons, List.map_nil, List.cons_append, List.nil_append, List.append_nil, List.length_cons, List.length_nil, List.replicate, List.getElem?_cons_zero, List.getElem?_cons_succ, List.set_cons_zero, List.set_cons_succ, List.getD_cons_zero, List.getD_cons_succ, Nat.reduceAdd, Nat.reduceSub, Nat.zero_add, true_and, and_true, Bool.not_true, Bool.not_false, if_true, if_false, Bool.false_eq_true, reduceIte, decide_eq_true_eq, Bool.not_eq_true', decide_eq_false_iff_not, eqV_int, eqV_str, eqV_bl, decide_true, reduceCtorEq, not_true_eq_false, not_false_eq_true, Bool.not_eq_true, List.not_mem_nil, false_implies, implies_true, Int.reduceNeg, Int.reduceToNat, Int.reducePow, Int.reduceMul, Int.reduceAdd, draw_i, ix_t0, ix_t1, ix_t2, ix_t3, ix_m3, ix_m4, sn_ball_box, sn_cell_box, sn_cell_ball, sn_ball_cell, sn_box_ball, sn_box_cell, decide_false, wEf, wErr]
    refine g0 (g1 ⟨by decide, fun e10 n10 => ?_⟩)
    generalize hM10 : setM M9 e10 _ = M10
    have h10 : M10 e10 = some (.err "InvalidText" [("at", x1), ("line", x0)]) := by rw [← hM10, setM_same]; rfl
    have u10 : Up M9 M10 := hM10 ▸ Up.set n10
    clear hM10
    refine ⟨_, _, h10, names_in _ (by decide +kernel), x0, rfl, rpd p0 (g0 (rpd p0 (ne_str ?_)))⟩
    simp (disch := first | assumption | decide) only [wSeq, wNext, wAsg, wgName, wIfS, wB, wOp, wVar, wC, wCall, wCallK, wCons, wNil, wRet, wRetN, wDrop, wTup, wLst, wIf, wAnd, wOr, wNot, wAndV, wOrV, wNotV, wNeg, wChain, fI, fI0, addD, fLt, fLe, fGt, fGe, fIsB, wCB, fAbs, f2I, fInt, fIsq, wPar, wPar3, permD, startE, List.map_cons, List.map_nil, List.cons_append, List.nil_append, List.append_nil, List.length_cons, List.length_nil, List.replicate, List.getElem?_cons_zero, List.getElem?_cons_succ, List.set_cons_zero, List.set_cons_succ, List.getD_cons_zero, List.getD_cons_succ, Nat.reduceAdd, Nat.reduceSub, Nat.zero_add, true_and, and_true, Bool.not_true, Bool.not_false, if_true, if_false, Bool.false_eq_true, reduceIte, decide_eq_true_eq, Bool.not_eq_true', decide_eq_false_iff_not, eqV_int, eqV_str, eqV_bl, decide_true, reduceCtorEq, not_true_eq_false, not_false_eq_true, Bool.not_eq_true, List.not_mem_nil, false_implies, implies_true, Int.reduceNeg, Int.reduceToNat, Int.reducePow, Int.reduceMul, Int.reduceAdd, draw_i, ix_t0, ix_t1, ix_t2, ix_t3, ix_m3, ix_m4, sn_ball_box, sn_cell_box, sn_cell_ball, sn_ball_cell, sn_box_ball, sn_box_cell, decide_false]
    clear hA
    have all9 : ∀ d ∈ made ++ worded ++ [D.tok e9], ∃ e y fs, d = .tok e ∧ y ∈ names9 ∧ M10 e = some (.err y fs) := fun d hd => by
      rcases List.mem_append.mp hd with hd | hd
      · rcases List.mem_append.mp hd with hd | hd
        · obtain ⟨e, y, r, hy, he⟩ := all5 d hd
          exact ⟨e, y, _, r, hy, u10 _ _ (u9 _ _ (uu8 _ _ he))⟩
        · obtain ⟨e, y, r, hy, he⟩ := all3 d hd
          exact ⟨e, y, _, r, hy, u10 _ _ (u9 _ _ he)⟩
      · rw [List.mem_singleton.mp hd]
        exact ⟨e9, _, _, rfl, by decide +kernel, u10 _ _ h9⟩
    have uu10 := (uu5.trans uu8).trans (u9.trans u10)
    have lm : made.length = 5 := by rw [← em]; rfl
    have lw : worded.length = 3 := by rw [← ew]; rfl
    subst hK
    refine seq_gen fun K hK => ?_
    refine for_gen fun B hB => ?_
    simp (disch := first | assumption | decide) only [wSeq, wNext, wAsg, wgName, wIfS, wB, wOp, wVar, wC, wCall, wCallK, wCons, wNil, wRet, wRetN, wDrop, wTup, wLst, wIf, wAnd, wOr, wNot, wAndV, wOrV, wNotV, wNeg, wChain, fI, fI0, addD, fLt, fLe, fGt, fGe, fIsB, wCB, fAbs, f2I, fInt, fIsq, wPar, wPar3, permD, startE, List.map_cons, List.map_nil, List.cons_append, List.nil_append, List.append_nil, List.length_cons, List.length_nil, List.replicate, List.getElem?_cons_zero, List.getElem?_cons_succ, List.set_cons_zero, List.set_cons_succ, List.getD_cons_zero, List.getD_cons_succ, Nat.reduceAdd, Nat.reduceSub, Nat.zero_add, true_and, and_true, Bool.not_true, Bool.not_false, if_true, if_false, Bool.false_eq_true, reduceIte, decide_eq_true_eq, Bool.not_eq_true', decide_eq_false_iff_not, eqV_int, eqV_str, eqV_bl, decide_true, reduceCtorEq, not_true_eq_false, not_false_eq_true, Bool.not_eq_true, List.not_mem_nil, false_implies, implies_true, Int.reduceNeg, Int.reduceToNat, Int.reducePow, Int.reduceMul, Int.reduceAdd, draw_i, ix_t0, ix_t1, ix_t2, ix_t3, ix_m3, ix_m4, sn_ball_box, sn_cell_box, sn_cell_ball, sn_ball_cell, sn_box_ball, sn_box_cell, decide_false, wFor, wiSeq]
    refine ⟨made, worded, ⟨a, .inr rfl⟩, ⟨a, .inr rfl⟩, rfl, rfl, by rw [lm, lw]; decide, ?_⟩
    refine ⟨by decide, made ++ worded, [.tok e9], ⟨a, .inr rfl⟩, ⟨a, .inr rfl⟩, rfl, rfl, by rw [List.length_append, lm, lw]; show 5 + 3 + 1 ≤ sizeLine; decide, ?_⟩
    refine loop_ix (fun i ρ' M' => Up M10 M' ∧ ∃ v3 v6 : Option D, ρ' = [some (.tok a), some (.lst [x0, x1]), some (.lst made), v3, some (.lst worded), some (.tok e9), v6, none, none]) ?_ ?_ ⟨Up.refl _, v3, none, rfl⟩
    · rintro i d ρ' M' hi ⟨uM, v3, v6, rfl⟩
      obtain ⟨e, y, fs, rfl, hy, he⟩ := all9 d (List.mem_of_getElem? hi)
      have he' := uM _ _ he
      refine ⟨True.intro, fun K2 hK2 => ?_⟩
      simp only [wgName, List.set_cons_succ, List.set_cons_zero]
      subst hB
      refine seq_gen fun K3 hK3 => ?_
      simp (disch := first | assumption | decide) only [wSeq, wNext, wAsg, wgName, wIfS, wB, wOp, wVar, wC, wCall, wCallK, wCons, wNil, wRet, wRetN, wDrop, wTup, wLst, wIf, wAnd, wOr, wNot, wAndV, wOrV, wNotV, wNeg, wChain, fI, fI0, addD, fLt, fLe, fGt, fGe, fIsB, wCB, fAbs, f2I, fInt, fIsq, wPar, wPar3, permD, startE, List.map_cons, List.map_nil, List.cons_append, List.nil_append, List.append_nil, List.length_cons, List.length_nil, List.replicate, List.getElem?_cons_zero, List.getElem?_cons_succ, List.set_cons_zero, List.set_cons_succ, List.getD_cons_zero, List.getD_cons_succ, Nat.reduceAdd, Nat.reduceSub, Nat.zero_add, true_and, and_true, Bool.not_true, Bool.not_false, if_true, if_false, Bool.false_eq_true, reduceIte, decide_eq_true_eq, Bool.not_eq_true', decide_eq_false_iff_not, eqV_int, eqV_str, eqV_bl, decide_true, reduceCtorEq, not_true_eq_false, not_false_eq_true, Bool.not_eq_true, List.not_mem_nil, false_implies, implies_true, Int.reduceNeg, Int.reduceToNat, Int.reducePow, Int.reduceMul, Int.reduceAdd, draw_i, ix_t0, ix_t1, ix_t2, ix_t3, ix_m3, ix_m4, sn_ball_box, sn_cell_box, sn_cell_ball, sn_ball_cell, sn_box_ball, sn_box_cell, decide_false]
      refine is_i rfl he' hy (t1 y hy) (is_i rfl he' hy (t2 y hy) (is_i rfl he' hy (t3 y hy) (is_i rfl he' hy (t4 y hy) ?_)))
      refine ⟨by decide, ?_⟩
      subst hK3
      refine seq_gen fun K3 hK3 => ?_
      simp (disch := first | assumption | decide) only [wSeq, wNext, wAsg, wgName, wIfS, wB, wOp, wVar, wC, wCall, wCallK, wCons, wNil, wRet, wRetN, wDrop, wTup, wLst, wIf, wAnd, wOr, wNot, wAndV, wOrV, wNotV, wNeg, wChain, fI, fI0, addD, fLt, fLe, fGt, fGe, fIsB, wCB, fAbs, f2I, fInt, fIsq, wPar, wPar3, permD, startE, List.map_cons, List.map_nil, List.cons_append, List.nil_append, List.append_nil, List.length_cons, List.length_nil, List.replicate, List.getElem?_cons_zero, List.getElem?_cons_succ, List.set_cons_zero, List.set_cons_succ, List.getD_cons_zero, List.getD_cons_succ, Nat.reduceAdd, Nat.reduceSub, Nat.zero_add, true_and, and_true, Bool.not_true, Bool.not_false, if_true, if_false, Bool.false_eq_true, reduceIte, decide_eq_true_eq, Bool.not_eq_true', decide_eq_false_iff_not, eqV_int, eqV_str, eqV_bl, decide_true, reduceCtorEq, not_true_eq_false, not_false_eq_true, Bool.not_eq_true, List.not_mem_nil, false_implies, implies_true, Int.reduceNeg, Int.reduceToNat, Int.reducePow, Int.reduceMul, Int.reduceAdd, draw_i, ix_t0, ix_t1, ix_t2, ix_t3, ix_m3, ix_m4, sn_ball_box, sn_cell_box, sn_cell_ball, sn_ball_cell, sn_box_ball, sn_box_cell, decide_false, catM]
      refine is_i rfl he' hy (t5 y hy) (is_i rfl he' hy (t6 y hy) (is_i rfl he' hy (t7 y hy) (is_i rfl he' hy (t8 y hy) ?_)))
      refine ⟨by decide, _, _, ⟨a, .inr rfl⟩, ⟨a, .inr rfl⟩, rfl, rfl, by show 4 + 4 ≤ sizeLine; decide, fun o ho => ?_⟩
      have ho0 := up_old uM ho
      subst hK3
      refine seq_gen fun K3 hK3 => ?_
      generalize hMo : setM M' o _ = Mo
      have hoo : Mo o = some (.lst ([decide (y = "InvalidVector"), decide (y = "InvalidItem"), decide (y = "InvalidFilter"), decide (y = "InvalidQuestion"), decide (y = "InvalidPaper"), decide (y = "InvalidNumber"), decide (y = "Refused"), decide (y = "Broken")].map .bl)) := by rw [← hMo, setM_same]; rfl
      have uo : Up M10 Mo := hMo ▸ upo ho0 uM
      clear hMo
      simp (disch := first | assumption | decide) only [wSeq, wNext, wAsg, wgName, wIfS, wB, wOp, wVar, wC, wCall, wCallK, wCons, wNil, wRet, wRetN, wDrop, wTup, wLst, wIf, wAnd, wOr, wNot, wAndV, wOrV, wNotV, wNeg, wChain, fI, fI0, addD, fLt, fLe, fGt, fGe, fIsB, wCB, fAbs, f2I, fInt, fIsq, wPar, wPar3, permD, startE, List.map_cons, List.map_nil, List.cons_append, List.nil_append, List.append_nil, List.length_cons, List.length_nil, List.replicate, List.getElem?_cons_zero, List.getElem?_cons_succ, List.set_cons_zero, List.set_cons_succ, List.getD_cons_zero, List.getD_cons_succ, Nat.reduceAdd, Nat.reduceSub, Nat.zero_add, true_and, and_true, Bool.not_true, Bool.not_false, if_true, if_false, Bool.false_eq_true, reduceIte, decide_eq_true_eq, Bool.not_eq_true', decide_eq_false_iff_not, eqV_int, eqV_str, eqV_bl, decide_true, reduceCtorEq, not_true_eq_false, not_false_eq_true, Bool.not_eq_true, List.not_mem_nil, false_implies, implies_true, Int.reduceNeg, Int.reduceToNat, Int.reducePow, Int.reduceMul, Int.reduceAdd, draw_i, ix_t0, ix_t1, ix_t2, ix_t3, ix_m3, ix_m4, sn_ball_box, sn_cell_box, sn_cell_ball, sn_ball_cell, sn_box_ball, sn_box_cell, decide_false, wApp]
      refine ⟨⟨_, hoo⟩, is_i rfl (uo _ _ he) hy (t9 y hy) ⟨_, hoo, by show 8 < sizeLine; decide, ?_⟩⟩
      generalize hMp : setM Mo o _ = Mp2
      have hpp : Mp2 o = some (.lst ((own9 y).map .bl)) := by rw [← hMp, setM_same]; rfl
      have up2 : Up M10 Mp2 := hMp ▸ upo ho0 uo
      clear hMp
      subst hK3
      refine if_gen fun A hA => ?_
      simp (disch := first | assumption | decide) only [wSeq, wNext, wAsg, wgName, wIfS, wB, wOp, wVar, wC, wCall, wCallK, wCons, wNil, wRet, wRetN, wDrop, wTup, wLst, wIf, wAnd, wOr, wNot, wAndV, wOrV, wNotV, wNeg, wChain, fI, fI0, addD, fLt, fLe, fGt, fGe, fIsB, wCB, fAbs, f2I, fInt, fIsq, wPar, wPar3, permD, startE, List.map_cons, List.map_nil, List.cons_append, List.nil_append, List.append_nil, List.length_cons, List.length_nil, List.replicate, List.getElem?_cons_zero, List.getElem?_cons_succ, List.set_cons_zero, List.set_cons_succ, List.getD_cons_zero, List.getD_cons_succ, Nat.reduceAdd, Nat.reduceSub, Nat.zero_add, true_and, and_true, Bool.not_true, Bool.not_false, if_true, if_false, Bool.false_eq_true, reduceIte, decide_eq_true_eq, Bool.not_eq_true', decide_eq_false_iff_not, eqV_int, eqV_str, eqV_bl, decide_true, reduceCtorEq, not_true_eq_false, not_false_eq_true, Bool.not_eq_true, List.not_mem_nil, false_implies, implies_true, Int.reduceNeg, Int.reduceToNat, Int.reducePow, Int.reduceMul, Int.reduceAdd, draw_i, ix_t0, ix_t1, ix_t2, ix_t3, ix_m3, ix_m4, sn_ball_box, sn_cell_box, sn_cell_ball, sn_ball_cell, sn_box_ball, sn_box_cell, decide_false, wLc, wiSeq, wipeE]
      refine ⟨_, hpp, ?_⟩
      refine lc_cnt hpp (by simp) (own9 y) [] (by show 0 + 9 ≤ 1000; decide) ?_
      rw [own_one y hy]
      refine ⟨_, rfl, eqV_int.mpr ?_⟩
      simp (disch := first | assumption | decide) only [wSeq, wNext, wAsg, wgName, wIfS, wB, wOp, wVar, wC, wCall, wCallK, wCons, wNil, wRet, wRetN, wDrop, wTup, wLst, wIf, wAnd, wOr, wNot, wAndV, wOrV, wNotV, wNeg, wChain, fI, fI0, addD, fLt, fLe, fGt, fGe, fIsB, wCB, fAbs, f2I, fInt, fIsq, wPar, wPar3, permD, startE, List.map_cons, List.map_nil, List.cons_append, List.nil_append, List.append_nil, List.length_cons, List.length_nil, List.replicate, List.getElem?_cons_zero, List.getElem?_cons_succ, List.set_cons_zero, List.set_cons_succ, List.getD_cons_zero, List.getD_cons_succ, Nat.reduceAdd, Nat.reduceSub, Nat.zero_add, true_and, and_true, Bool.not_true, Bool.not_false, if_true, if_false, Bool.false_eq_true, reduceIte, decide_eq_true_eq, Bool.not_eq_true', decide_eq_false_iff_not, eqV_int, eqV_str, eqV_bl, decide_true, reduceCtorEq, not_true_eq_false, not_false_eq_true, Bool.not_eq_true, List.not_mem_nil, false_implies, implies_true, Int.reduceNeg, Int.reduceToNat, Int.reducePow, Int.reduceMul, Int.reduceAdd, draw_i, ix_t0, ix_t1, ix_t2, ix_t3, ix_m3, ix_m4, sn_ball_box, sn_cell_box, sn_cell_ball, sn_ball_cell, sn_box_ball, sn_box_cell, decide_false]
      rw [if_neg (by decide)]
      refine is_i rfl (up2 _ _ he) hy (t0 y hy) ?_
      simp (disch := first | assumption | decide) only [wSeq, wNext, wAsg, wgName, wIfS, wB, wOp, wVar, wC, wCall, wCallK, wCons, wNil, wRet, wRetN, wDrop, wTup, wLst, wIf, wAnd, wOr, wNot, wAndV, wOrV, wNotV, wNeg, wChain, fI, fI0, addD, fLt, fLe, fGt, fGe, fIsB, wCB, fAbs, f2I, fInt, fIsq, wPar, wPar3, permD, startE, List.map_cons, List.map_nil, List.cons_append, List.nil_append, List.append_nil, List.length_cons, List.length_nil, List.replicate, List.getElem?_cons_zero, List.getElem?_cons_succ, List.set_cons_zero, List.set_cons_succ, List.getD_cons_zero, List.getD_cons_succ, Nat.reduceAdd, Nat.reduceSub, Nat.zero_add, true_and, and_true, Bool.not_true, Bool.not_false, if_true, if_false, Bool.false_eq_true, reduceIte, decide_eq_true_eq, Bool.not_eq_true', decide_eq_false_iff_not, eqV_int, eqV_str, eqV_bl, decide_true, reduceCtorEq, not_true_eq_false, not_false_eq_true, Bool.not_eq_true, List.not_mem_nil, false_implies, implies_true, Int.reduceNeg, Int.reduceToNat, Int.reducePow, Int.reduceMul, Int.reduceAdd, draw_i, ix_t0, ix_t1, ix_t2, ix_t3, ix_m3, ix_m4, sn_ball_box, sn_cell_box, sn_cell_ball, sn_ball_cell, sn_box_ball, sn_box_cell, decide_false]
      refine is_i rfl (up2 _ _ he) hy rfl ?_
      simp (disch := first | assumption | decide) only [wSeq, wNext, wAsg, wgName, wIfS, wB, wOp, wVar, wC, wCall, wCallK, wCons, wNil, wRet, wRetN, wDrop, wTup, wLst, wIf, wAnd, wOr, wNot, wAndV, wOrV, wNotV, wNeg, wChain, fI, fI0, addD, fLt, fLe, fGt, fGe, fIsB, wCB, fAbs, f2I, fInt, fIsq, wPar, wPar3, permD, startE, List.map_cons, List.map_nil, List.cons_append, List.nil_append, List.append_nil, List.length_cons, List.length_nil, List.replicate, List.getElem?_cons_zero, List.getElem?_cons_succ, List.set_cons_zero, List.set_cons_succ, List.getD_cons_zero, List.getD_cons_succ, Nat.reduceAdd, Nat.reduceSub, Nat.zero_add, true_and, and_true, Bool.not_true, Bool.not_false, if_true, if_false, Bool.false_eq_true, reduceIte, decide_eq_true_eq, Bool.not_eq_true', decide_eq_false_iff_not, eqV_int, eqV_str, eqV_bl, decide_true, reduceCtorEq, not_true_eq_false, not_false_eq_true, Bool.not_eq_true, List.not_mem_nil, false_implies, implies_true, Int.reduceNeg, Int.reduceToNat, Int.reducePow, Int.reduceMul, Int.reduceAdd, draw_i, ix_t0, ix_t1, ix_t2, ix_t3, ix_m3, ix_m4, sn_ball_box, sn_cell_box, sn_cell_ball, sn_ball_cell, sn_box_ball, sn_box_cell, decide_false]
      exact hK2 _ _ ⟨up2, _, _, rfl⟩
    · rintro ρ' M' ⟨uM, v3, v6, rfl⟩
      refine ⟨True.intro, ?_⟩
      show K _ _
      subst hK
      simp (disch := first | assumption | decide) only [wSeq, wNext, wAsg, wgName, wIfS, wB, wOp, wVar, wC, wCall, wCallK, wCons, wNil, wRet, wRetN, wDrop, wTup, wLst, wIf, wAnd, wOr, wNot, wAndV, wOrV, wNotV, wNeg, wChain, fI, fI0, addD, fLt, fLe, fGt, fGe, fIsB, wCB, fAbs, f2I, fInt, fIsq, wPar, wPar3, permD, startE, List.map_cons, List.map_nil, List.cons_append, List.nil_append, List.append_nil, List.length_cons, List.length_nil, List.replicate, List.getElem?_cons_zero, List.getElem?_cons_succ, List.set_cons_zero, List.set_cons_succ, List.getD_cons_zero, List.getD_cons_succ, Nat.reduceAdd, Nat.reduceSub, Nat.zero_add, true_and, and_true, Bool.not_true, Bool.not_false, if_true, if_false, Bool.false_eq_true, reduceIte, decide_eq_true_eq, Bool.not_eq_true', decide_eq_false_iff_not, eqV_int, eqV_str, eqV_bl, decide_true, reduceCtorEq, not_true_eq_false, not_false_eq_true, Bool.not_eq_true, List.not_mem_nil, false_implies, implies_true, Int.reduceNeg, Int.reduceToNat, Int.reducePow, Int.reduceMul, Int.reduceAdd, draw_i, ix_t0, ix_t1, ix_t2, ix_t3, ix_m3, ix_m4, sn_ball_box, sn_cell_box, sn_cell_ball, sn_ball_cell, sn_box_ball, sn_box_cell, decide_false]
      exact q M' (uu10.trans uM)
end K01
namespace K01
open PySem L2 L3
/-! vectors spoilt -/
def odd9 : List D := [.non, .bl true, .bl false, .str "1", .tup [.int 1], .lst [.int 1], .str "", .dct [] [], .tup []]
/-- an integer, or one of the odd values -/
def oddP (d : D) : Prop := (∃ i : Int, d = .int i ∧ -10000 ≤ i ∧ i ≤ 10000) ∨ d ∈ odd9
theorem odd_no {d : D} (h : d ∈ odd9) : intB d = false := by
  simp only [odd9, List.mem_cons, List.not_mem_nil, or_false] at h
  rcases h with rfl | rfl | rfl | rfl | rfl | rfl | rfl | rfl | rfl <;> rfl
theorem odd_ok {M : Mp} {d : D} (h : oddP d) : okD M 0 d ∧ shw 5 d ∧ cost d ≤ 300 := by
  rcases h with ⟨i, rfl, h0, h1⟩ | h
  · exact ⟨rfl, Nat.lt_of_lt_of_le (by omega : i.natAbs < 2 ^ 30) (by decide), by show 210 ≤ 300; decide⟩
  · simp only [odd9, List.mem_cons, List.not_mem_nil, or_false] at h
    have one : ∀ n, shw n (.int 1) := fun n => by
      have e : shw n (.int 1) ↔ (1 : Int).natAbs < 2 ^ 200 := by cases n <;> exact Iff.rfl
      exact e.mpr (by decide)
    rcases h with rfl | rfl | rfl | rfl | rfl | rfl | rfl | rfl | rfl
    · exact ⟨rfl, True.intro, by show 5 ≤ 300; decide⟩
    · exact ⟨rfl, True.intro, by show 5 ≤ 300; decide⟩
    · exact ⟨rfl, True.intro, by show 5 ≤ 300; decide⟩
    · exact ⟨rfl, by show PySem.PyData.strOk _ = true; decide +kernel, by show 10 * _ + 4 ≤ 300; decide +kernel⟩
    · exact ⟨rfl, fun d hd => by rw [List.mem_singleton.mp hd]; exact one 4, by show 210 + 2 + 0 + 4 ≤ 300; decide⟩
    · exact ⟨rfl, fun d hd => by rw [List.mem_singleton.mp hd]; exact one 4, by show 210 + 2 + 0 + 4 ≤ 300; decide⟩
    · exact ⟨rfl, by show PySem.PyData.strOk _ = true; decide +kernel, by show 10 * _ + 4 ≤ 300; decide +kernel⟩
    · exact ⟨rfl, ⟨⟨rfl, fun k hk => nomatch hk⟩, fun d hd => nomatch hd⟩, by show (D.py (.dct [] [])).shown.length ≤ 300; decide +kernel⟩
    · exact ⟨rfl, fun d hd => (nomatch hd), by show 0 + 4 ≤ 300; decide⟩
theorem costL_le {B : Nat} : ∀ {ys : List D}, (∀ y ∈ ys, cost y ≤ B) → costL ys ≤ (B + 2) * ys.length
  | [], _ => Nat.le_refl _
  | y :: ys, h => by
    have h1 := h y List.mem_cons_self
    have h2 := costL_le (ys := ys) fun z hz => h z (List.mem_cons_of_mem _ hz)
    show cost y + 2 + costL ys ≤ _
    rw [List.length_cons, Nat.mul_add, Nat.mul_one]
    omega
theorem list_sh {M : Mp} {es : List D} (hl : es.length ≤ 20) (h : ∀ e ∈ es, oddP e) : (∀ e ∈ es, shw 5 e) ∧ costL es ≤ 10000 := by
  refine ⟨fun e he => (odd_ok (M := M) (h e he)).2.1, ?_⟩
  have h2 := costL_le (B := 300) fun e he => (odd_ok (M := M) (h e he)).2.2
  have h3 : (300 + 2) * es.length ≤ 302 * 20 := Nat.mul_le_mul_left _ hl
  omega
theorem tup_right {M : Mp} {es : List D} {n : Int} {Q : KD} {R} (due : D) (hd : optI (vdue (.tup es) n) = due) (hl : es.length ≤ 20) (h : ∀ e ∈ es, oddP e) (q : Q (.bl true) M) : F__law_right [.tup es, .int n, due] M Q R := by
  obtain ⟨s1, s2⟩ := list_sh (M := M) hl h
  exact right_i due hd ⟨rfl, fun es' e => by
    cases e
    exact ⟨by omega, fun d hd => (odd_ok (h d hd)).1⟩⟩ ⟨6, by decide, s1, by show costL es + 4 ≤ _; omega⟩ q
theorem tok_right {M : Mp} {t : Addr} {es : List D} {n : Int} {Q : KD} {R} (ht : M t = some (.lst es)) (hl : es.length ≤ 20) (h : ∀ e ∈ es, oddP e) (q : Q (.bl true) M) : F__law_right [.tok t, .int n, .int (-1)] M Q R := by
  obtain ⟨s1, s2⟩ := list_sh (M := M) hl h
  have er : res M (.tok t) = .lst es := by
    show (match M t with | some (.lst ds) => D.lst ds | some (.dic _ _) => _ | _ => _) = _
    rw [ht]
  have ety : tyD M (.tok t) = some "list" := by
    show (match M t with | some (.lst _) => some "list" | some (.dic _ _) => some "dict" | _ => none) = _
    rw [ht]
  refine right_i (.int (-1)) rfl ⟨by unfold tyOk; rw [ety]; rfl, fun es' e => nomatch e⟩ ⟨6, by decide, by rw [er]; exact s1, by rw [er]; show costL es + 4 ≤ _; omega⟩ q
/-- the first odd value of a list -/
theorem first_at : ∀ {es : List D} {i at_ : Nat}, at_ < es.length → (∀ j, j < at_ → intB (es.getD j .non) = true) → intB (es.getD at_ .non) = false → firstBad es i = some (i + at_)
  | [], _, _, h, _, _ => absurd h (Nat.not_lt_zero _)
  | e :: es, i, 0, _, _, h2 => by
    have h2 : intB e = false := h2
    rw [firstBad, h2]
    rfl
  | e :: es, i, k + 1, h, h1, h2 => by
    have h0 : intB e = true := h1 0 (Nat.succ_pos _)
    rw [firstBad, h0, if_pos rfl, first_at (es := es) (i := i + 1) (at_ := k) (Nat.lt_of_succ_lt_succ h) (fun j hj => h1 (j + 1) (Nat.succ_lt_succ hj)) h2]
    congr 1
    omega
theorem ixN_nat {n i : Nat} (h : i < n) : ixN n (i : Int) = some i := by
  unfold ixN
  simp [h]
theorem set_set2 {M : Mp} {a : Addr} {c c' : Cell} : setM (setM M a c) a c' = setM M a c' := by
  funext b
  by_cases h : b = a
  · subst h
    rw [setM_same, setM_same]
  · rw [setM_ne h, setM_ne h, setM_ne h]
theorem wp__law_spoilt_right : ∀ ds M Q R, F__law_spoilt_right ds M Q R → W__law_spoilt_right { nx := fun _ M' => Q .non M', rt := Q, xr := lx R } (startE 7 ds) M := by
  rintro ds M Q R ⟨a, a0, p, v, rfl, hm, p1, p8, hv, q⟩
  unfold W__law_spoilt_right
  refine seq_gen fun K hK => ?_
  unfold vec
  simp (disch := first | assumption | decide) only [wSeq, wNext, wAsg, wgName, wIfS, wB, wOp, wVar, wC, wCall, wCallK, wCons, wNil, wRet, wRetN, wDrop, wTup, wLst, wIf, wAnd, wOr, wNot, wAndV, wOrV, wNotV, wNeg, wChain, fI, fI0, addD, fLt, fLe, fGt, fGe, fIsB, wCB, fAbs, f2I, fInt, fIsq, wPar, wPar3, permD, startE, List.map_cons, List.map_nil, List.cons_append, List.nil_append, List.append_nil, List.length_cons, List.length_nil, List.replicate, List.getElem?_cons_zero, List.getElem?_cons_succ, List.set_cons_zero, List.set_cons_succ, List.getD_cons_zero, List.getD_cons_succ, Nat.reduceAdd, Nat.reduceSub, Nat.zero_add, true_and, and_true, Bool.not_true, Bool.not_false, if_true, if_false, Bool.false_eq_true, reduceIte, decide_eq_true_eq, Bool.not_eq_true', decide_eq_false_iff_not, eqV_int, eqV_str, eqV_bl, decide_true, reduceCtorEq, not_true_eq_false, not_false_eq_true, Bool.not_eq_true, List.not_mem_nil, false_implies, implies_true, Int.reduceNeg, Int.reduceToNat, Int.reducePow, Int.reduceMul, Int.reduceAdd, draw_i, ix_t0, ix_t1, ix_t2, ix_t3, ix_m3, ix_m4, sn_ball_box, sn_cell_box, sn_cell_ball, sn_ball_cell, sn_box_ball, sn_box_cell, decide_false, wPar, fListM, len_tup]
  rw [List.length_map, hv.1]
  refine (draw_i hm (by omega) (log_of (by omega) (by omega))).mpr fun j j0 j1 => ?_
  obtain ⟨i, rfl⟩ := Int.eq_ofNat_of_zero_le j0
  have hi : i < p := by omega
  refine ⟨_, rfl, fun f hf => ?_⟩
  have uf : ∀ c, Up M (setM M f c) := fun c => Up.set hf
  have nf : a ≠ f := fun z => by rw [z, hf] at hm; cases hm
  have hmf : ∀ c, setM M f c a = some (.drw a0) := fun c => by rw [setM_ne nf]; exact hm
  subst hK
  refine seq_gen fun K hK => ?_
  simp (disch := first | assumption | decide) only [wSeq, wNext, wAsg, wgName, wIfS, wB, wOp, wVar, wC, wCall, wCallK, wCons, wNil, wRet, wRetN, wDrop, wTup, wLst, wIf, wAnd, wOr, wNot, wAndV, wOrV, wNotV, wNeg, wChain, fI, fI0, addD, fLt, fLe, fGt, fGe, fIsB, wCB, fAbs, f2I, fInt, fIsq, wPar, wPar3, permD, startE, List.map_cons, List.map_nil, List.cons_append, List.nil_append, List.append_nil, List.length_cons, List.length_nil, List.replicate, List.getElem?_cons_zero, List.getElem?_cons_succ, List.set_cons_zero, List.set_cons_succ, List.getD_cons_zero, List.getD_cons_succ, Nat.reduceAdd, Nat.reduceSub, Nat.zero_add, true_and, and_true, Bool.not_true, Bool.not_false, if_true, if_false, Bool.false_eq_true, reduceIte, decide_eq_true_eq, Bool.not_eq_true', decide_eq_false_iff_not, eqV_int, eqV_str, eqV_bl, decide_true, reduceCtorEq, not_true_eq_false, not_false_eq_true, Bool.not_eq_true, List.not_mem_nil, false_implies, implies_true, Int.reduceNeg, Int.reduceToNat, Int.reducePow, Int.reduceMul, Int.reduceAdd, draw_i, ix_t0, ix_t1, ix_t2, ix_t3, ix_m3, ix_m4, sn_ball_box, sn_cell_box, sn_cell_ball, sn_ball_cell, sn_box_ball, sn_box_cell, decide_false, wDct0]
  repeat refine And.intro (by decide) ?_
  subst hK
  refine seq_gen fun K hK => ?_
  simp (disch := first | assumption | decide) only [wSeq, wNext, wAsg, wgName, wIfS, wB, wOp, wVar, wC, wCall, wCallK, wCons, wNil, wRet, wRetN, wDrop, wTup, wLst, wIf, wAnd, wOr, wNot, wAndV, wOrV, wNotV, wNeg, wChain, fI, fI0, addD, fLt, fLe, fGt, fGe, fIsB, wCB, fAbs, f2I, fInt, fIsq, wPar, wPar3, permD, startE, List.map_cons, List.map_nil, List.cons_append, List.nil_append, List.append_nil, List.length_cons, List.length_nil, List.replicate, List.getElem?_cons_zero, List.getElem?_cons_succ, List.set_cons_zero, List.set_cons_succ, List.getD_cons_zero, List.getD_cons_succ, Nat.reduceAdd, Nat.reduceSub, Nat.zero_add, true_and, and_true, Bool.not_true, Bool.not_false, if_true, if_false, Bool.false_eq_true, reduceIte, decide_eq_true_eq, Bool.not_eq_true', decide_eq_false_iff_not, eqV_int, eqV_str, eqV_bl, decide_true, reduceCtorEq, not_true_eq_false, not_false_eq_true, Bool.not_eq_true, List.not_mem_nil, false_implies, implies_true, Int.reduceNeg, Int.reduceToNat, Int.reducePow, Int.reduceMul, Int.reduceAdd, draw_i, ix_t0, ix_t1, ix_t2, ix_t3, ix_m3, ix_m4, sn_ball_box, sn_cell_box, sn_cell_ball, sn_ball_cell, sn_box_ball, sn_box_cell, decide_false]
  refine pick_q (hmf _) (es := odd9) rfl (by decide) (by decide) fun x hx => ?_
  rw [show [D.non, D.bl true, D.bl false, D.str "1", D.tup [D.int 1], D.lst [D.int 1], D.str "", D.dct [] [], D.tup []] = odd9 from rfl]
  simp (disch := first | assumption | decide) only [wSeq, wNext, wAsg, wgName, wIfS, wB, wOp, wVar, wC, wCall, wCallK, wCons, wNil, wRet, wRetN, wDrop, wTup, wLst, wIf, wAnd, wOr, wNot, wAndV, wOrV, wNotV, wNeg, wChain, fI, fI0, addD, fLt, fLe, fGt, fGe, fIsB, wCB, fAbs, f2I, fInt, fIsq, wPar, wPar3, permD, startE, List.map_cons, List.map_nil, List.cons_append, List.nil_append, List.append_nil, List.length_cons, List.length_nil, List.replicate, List.getElem?_cons_zero, List.getElem?_cons_succ, List.set_cons_zero, List.set_cons_succ, List.getD_cons_zero, List.getD_cons_succ, Nat.reduceAdd, Nat.reduceSub, Nat.zero_add, true_and, and_true, Bool.not_true, Bool.not_false, if_true, if_false, Bool.false_eq_true, reduceIte, decide_eq_true_eq, Bool.not_eq_true', decide_eq_false_iff_not, eqV_int, eqV_str, eqV_bl, decide_true, reduceCtorEq, not_true_eq_false, not_false_eq_true, Bool.not_eq_true, List.not_mem_nil, false_implies, implies_true, Int.reduceNeg, Int.reduceToNat, Int.reducePow, Int.reduceMul, Int.reduceAdd, draw_i, ix_t0, ix_t1, ix_t2, ix_t3, ix_m3, ix_m4, sn_ball_box, sn_cell_box, sn_cell_ball, sn_ball_cell, sn_box_ball, sn_box_cell, decide_false, wgSub, setD]
  have lv : (v.map D.int).length = p := by rw [List.length_map]; exact hv.1
  refine ⟨_, i, setM_same, ixN_nat (by omega), ?_⟩
  rw [set_set2]
  subst hK
  refine seq_gen fun K hK => ?_
  simp (disch := first | assumption | decide) only [wSeq, wNext, wAsg, wgName, wIfS, wB, wOp, wVar, wC, wCall, wCallK, wCons, wNil, wRet, wRetN, wDrop, wTup, wLst, wIf, wAnd, wOr, wNot, wAndV, wOrV, wNotV, wNeg, wChain, fI, fI0, addD, fLt, fLe, fGt, fGe, fIsB, wCB, fAbs, f2I, fInt, fIsq, wPar, wPar3, permD, startE, List.map_cons, List.map_nil, List.cons_append, List.nil_append, List.append_nil, List.length_cons, List.length_nil, List.replicate, List.getElem?_cons_zero, List.getElem?_cons_succ, List.set_cons_zero, List.set_cons_succ, List.getD_cons_zero, List.getD_cons_succ, Nat.reduceAdd, Nat.reduceSub, Nat.zero_add, true_and, and_true, Bool.not_true, Bool.not_false, if_true, if_false, Bool.false_eq_true, reduceIte, decide_eq_true_eq, Bool.not_eq_true', decide_eq_false_iff_not, eqV_int, eqV_str, eqV_bl, decide_true, reduceCtorEq, not_true_eq_false, not_false_eq_true, Bool.not_eq_true, List.not_mem_nil, false_implies, implies_true, Int.reduceNeg, Int.reduceToNat, Int.reducePow, Int.reduceMul, Int.reduceAdd, draw_i, ix_t0, ix_t1, ix_t2, ix_t3, ix_m3, ix_m4, sn_ball_box, sn_cell_box, sn_cell_ball, sn_ball_cell, sn_box_ball, sn_box_cell, decide_false, len_tup]
  rw [lv]
  refine (draw_i (hmf _) (by omega) (log_of (by omega) (by omega))).mpr fun j2 j20 j21 => ?_
  obtain ⟨k, rfl⟩ := Int.eq_ofNat_of_zero_le j20
  have el : (i : Int) + (k : Int) = ((i + k : Nat) : Int) := by omega
  simp (disch := first | assumption | decide) only [wSeq, wNext, wAsg, wgName, wIfS, wB, wOp, wVar, wC, wCall, wCallK, wCons, wNil, wRet, wRetN, wDrop, wTup, wLst, wIf, wAnd, wOr, wNot, wAndV, wOrV, wNotV, wNeg, wChain, fI, fI0, addD, fLt, fLe, fGt, fGe, fIsB, wCB, fAbs, f2I, fInt, fIsq, wPar, wPar3, permD, startE, List.map_cons, List.map_nil, List.cons_append, List.nil_append, List.append_nil, List.length_cons, List.length_nil, List.replicate, List.getElem?_cons_zero, List.getElem?_cons_succ, List.set_cons_zero, List.set_cons_succ, List.getD_cons_zero, List.getD_cons_succ, Nat.reduceAdd, Nat.reduceSub, Nat.zero_add, true_and, and_true, Bool.not_true, Bool.not_false, if_true, if_false, Bool.false_eq_true, reduceIte, decide_eq_true_eq, Bool.not_eq_true', decide_eq_false_iff_not, eqV_int, eqV_str, eqV_bl, decide_true, reduceCtorEq, not_true_eq_false, not_false_eq_true, Bool.not_eq_true, List.not_mem_nil, false_implies, implies_true, Int.reduceNeg, Int.reduceToNat, Int.reducePow, Int.reduceMul, Int.reduceAdd, draw_i, ix_t0, ix_t1, ix_t2, ix_t3, ix_m3, ix_m4, sn_ball_box, sn_cell_box, sn_cell_ball, sn_ball_cell, sn_box_ball, sn_box_cell, decide_false]
  rw [el]
  subst hK
  refine seq_gen fun K hK => ?_
  simp (disch := first | assumption | decide) only [wSeq, wNext, wAsg, wgName, wIfS, wB, wOp, wVar, wC, wCall, wCallK, wCons, wNil, wRet, wRetN, wDrop, wTup, wLst, wIf, wAnd, wOr, wNot, wAndV, wOrV, wNotV, wNeg, wChain, fI, fI0, addD, fLt, fLe, fGt, fGe, fIsB, wCB, fAbs, f2I, fInt, fIsq, wPar, wPar3, permD, startE, List.map_cons, List.map_nil, List.cons_append, List.nil_append, List.append_nil, List.length_cons, List.length_nil, List.replicate, List.getElem?_cons_zero, List.getElem?_cons_succ, List.set_cons_zero, List.set_cons_succ, List.getD_cons_zero, List.getD_cons_succ, Nat.reduceAdd, Nat.reduceSub, Nat.zero_add, true_and, and_true, Bool.not_true, Bool.not_false, if_true, if_false, Bool.false_eq_true, reduceIte, decide_eq_true_eq, Bool.not_eq_true', decide_eq_false_iff_not, eqV_int, eqV_str, eqV_bl, decide_true, reduceCtorEq, not_true_eq_false, not_false_eq_true, Bool.not_eq_true, List.not_mem_nil, false_implies, implies_true, Int.reduceNeg, Int.reduceToNat, Int.reducePow, Int.reduceMul, Int.reduceAdd, draw_i, ix_t0, ix_t1, ix_t2, ix_t3, ix_m3, ix_m4, sn_ball_box, sn_cell_box, sn_cell_ball, sn_ball_cell, sn_box_ball, sn_box_cell, decide_false]
  refine pick_q (hmf _) (es := odd9) rfl (by decide) (by decide) fun y hy => ?_
  simp (disch := first | assumption | decide) only [wSeq, wNext, wAsg, wgName, wIfS, wB, wOp, wVar, wC, wCall, wCallK, wCons, wNil, wRet, wRetN, wDrop, wTup, wLst, wIf, wAnd, wOr, wNot, wAndV, wOrV, wNotV, wNeg, wChain, fI, fI0, addD, fLt, fLe, fGt, fGe, fIsB, wCB, fAbs, f2I, fInt, fIsq, wPar, wPar3, permD, startE, List.map_cons, List.map_nil, List.cons_append, List.nil_append, List.append_nil, List.length_cons, List.length_nil, List.replicate, List.getElem?_cons_zero, List.getElem?_cons_succ, List.set_cons_zero, List.set_cons_succ, List.getD_cons_zero, List.getD_cons_succ, Nat.reduceAdd, Nat.reduceSub, Nat.zero_add, true_and, and_true, Bool.not_true, Bool.not_false, if_true, if_false, Bool.false_eq_true, reduceIte, decide_eq_true_eq, Bool.not_eq_true', decide_eq_false_iff_not, eqV_int, eqV_str, eqV_bl, decide_true, reduceCtorEq, not_true_eq_false, not_false_eq_true, Bool.not_eq_true, List.not_mem_nil, false_implies, implies_true, Int.reduceNeg, Int.reduceToNat, Int.reducePow, Int.reduceMul, Int.reduceAdd, draw_i, ix_t0, ix_t1, ix_t2, ix_t3, ix_m3, ix_m4, sn_ball_box, sn_cell_box, sn_cell_ball, sn_ball_cell, sn_box_ball, sn_box_cell, decide_false, wgSub, setD]
  refine ⟨_, i + k, setM_same, ixN_nat (by rw [List.length_set]; omega), ?_⟩
  rw [set_set2]
  obtain ⟨es, ees⟩ : ∃ es, es = ((v.map D.int).set i x).set (i + k) y := ⟨_, rfl⟩
  rw [← ees]
  have le : es.length = p := by rw [ees, List.length_set, List.length_set, lv]
  have od : ∀ e ∈ es, oddP e := fun e he => by
    rw [ees] at he
    rcases List.mem_or_eq_of_mem_set he with he | rfl
    · rcases List.mem_or_eq_of_mem_set he with he | rfl
      · obtain ⟨b, hb, rfl⟩ := List.mem_map.mp he
        exact .inl ⟨b, rfl, hv.2 b hb⟩
      · exact .inr hx
    · exact .inr hy
  have gj : ∀ j, j < i → intB (es.getD j .non) = true := fun j hj => by
    rw [ees, List.getD_eq_getElem?_getD, List.getElem?_set, if_neg (by omega), List.getElem?_set, if_neg (by omega), List.getElem?_map, List.getElem?_eq_getElem (by rw [hv.1]; omega)]
    rfl
  have gi : intB (es.getD i .non) = false := by
    rw [ees, List.getD_eq_getElem?_getD, List.getElem?_set]
    by_cases h0 : i + k = i
    · rw [if_pos h0, if_pos (by rw [List.length_set]; omega)]
      exact odd_no hy
    · rw [if_neg h0, List.getElem?_set, if_pos rfl, if_pos (by omega)]
      exact odd_no hx
  have fb := first_at (es := es) (i := 0) (at_ := i) (by omega) gj gi
  have d1 : optI (vdue (.tup es) (p : Int)) = .int (i : Int) := by
    show optI (if (es.length : Int) = (p : Int) then _ else some (-1)) = _
    rw [if_pos (by omega), fb, Nat.zero_add]
    rfl
  have d2 : ∀ (es' : List D) (n : Int), (es'.length : Int) ≠ n → optI (vdue (.tup es') n) = .int (-1) := fun es' n h => by
    show optI (if (es'.length : Int) = n then _ else some (-1)) = _
    rw [if_neg h]
    rfl
  have l20 : es.length ≤ 20 := by omega
  clear ees
  subst hK
  refine seq_gen fun K hK => ?_
  simp (disch := first | assumption | decide) only [wSeq, wNext, wAsg, wgName, wIfS, wB, wOp, wVar, wC, wCall, wCallK, wCons, wNil, wRet, wRetN, wDrop, wTup, wLst, wIf, wAnd, wOr, wNot, wAndV, wOrV, wNotV, wNeg, wChain, fI, fI0, addD, fLt, fLe, fGt, fGe, fIsB, wCB, fAbs, f2I, fInt, fIsq, wPar, wPar3, permD, startE, List.map_cons, List.map_nil, List.cons_append, List.nil_append, List.append_nil, List.length_cons, List.length_nil, List.replicate, List.getElem?_cons_zero, List.getElem?_cons_succ, List.set_cons_zero, List.set_cons_succ, List.getD_cons_zero, List.getD_cons_succ, Nat.reduceAdd, Nat.reduceSub, Nat.zero_add, true_and, and_true, Bool.not_true, Bool.not_false, if_true, if_false, Bool.false_eq_true, reduceIte, decide_eq_true_eq, Bool.not_eq_true', decide_eq_false_iff_not, eqV_int, eqV_str, eqV_bl, decide_true, reduceCtorEq, not_true_eq_false, not_false_eq_true, Bool.not_eq_true, List.not_mem_nil, false_implies, implies_true, Int.reduceNeg, Int.reduceToNat, Int.reducePow, Int.reduceMul, Int.reduceAdd, draw_i, ix_t0, ix_t1, ix_t2, ix_t3, ix_m3, ix_m4, sn_ball_box, sn_cell_box, sn_cell_ball, sn_ball_cell, sn_box_ball, sn_box_cell, decide_false, len_tup]
  rw [lv]
  subst hK
  refine seq_gen fun K hK => ?_
  have sq : seqD (setM M f (.lst es)) (.tok f) = some es := by
    show (match setM M f (.lst es) f with | some (.lst ds) => some ds | _ => none) = _
    rw [setM_same]
  simp (disch := first | assumption | decide) only [wSeq, wNext, wAsg, wgName, wIfS, wB, wOp, wVar, wC, wCall, wCallK, wCons, wNil, wRet, wRetN, wDrop, wTup, wLst, wIf, wAnd, wOr, wNot, wAndV, wOrV, wNotV, wNeg, wChain, fI, fI0, addD, fLt, fLe, fGt, fGe, fIsB, wCB, fAbs, f2I, fInt, fIsq, wPar, wPar3, permD, startE, List.map_cons, List.map_nil, List.cons_append, List.nil_append, List.append_nil, List.length_cons, List.length_nil, List.replicate, List.getElem?_cons_zero, List.getElem?_cons_succ, List.set_cons_zero, List.set_cons_succ, List.getD_cons_zero, List.getD_cons_succ, Nat.reduceAdd, Nat.reduceSub, Nat.zero_add, true_and, and_true, Bool.not_true, Bool.not_false, if_true, if_false, Bool.false_eq_true, reduceIte, decide_eq_true_eq, Bool.not_eq_true', decide_eq_false_iff_not, eqV_int, eqV_str, eqV_bl, decide_true, reduceCtorEq, not_true_eq_false, not_false_eq_true, Bool.not_eq_true, List.not_mem_nil, false_implies, implies_true, Int.reduceNeg, Int.reduceToNat, Int.reducePow, Int.reduceMul, Int.reduceAdd, draw_i, ix_t0, ix_t1, ix_t2, ix_t3, ix_m3, ix_m4, sn_ball_box, sn_cell_box, sn_cell_ball, sn_ball_cell, sn_box_ball, sn_box_cell, decide_false, fTuple]
  refine ⟨_, sq, tup_right _ d1 l20 od ?_⟩
  simp (disch := first | assumption | decide) only [wSeq, wNext, wAsg, wgName, wIfS, wB, wOp, wVar, wC, wCall, wCallK, wCons, wNil, wRet, wRetN, wDrop, wTup, wLst, wIf, wAnd, wOr, wNot, wAndV, wOrV, wNotV, wNeg, wChain, fI, fI0, addD, fLt, fLe, fGt, fGe, fIsB, wCB, fAbs, f2I, fInt, fIsq, wPar, wPar3, permD, startE, List.map_cons, List.map_nil, List.cons_append, List.nil_append, List.append_nil, List.length_cons, List.length_nil, List.replicate, List.getElem?_cons_zero, List.getElem?_cons_succ, List.set_cons_zero, List.set_cons_succ, List.getD_cons_zero, List.getD_cons_succ, Nat.reduceAdd, Nat.reduceSub, Nat.zero_add, true_and, and_true, Bool.not_true, Bool.not_false, if_true, if_false, Bool.false_eq_true, reduceIte, decide_eq_true_eq, Bool.not_eq_true', decide_eq_false_iff_not, eqV_int, eqV_str, eqV_bl, decide_true, reduceCtorEq, not_true_eq_false, not_false_eq_true, Bool.not_eq_true, List.not_mem_nil, false_implies, implies_true, Int.reduceNeg, Int.reduceToNat, Int.reducePow, Int.reduceMul, Int.reduceAdd, draw_i, ix_t0, ix_t1, ix_t2, ix_t3, ix_m3, ix_m4, sn_ball_box, sn_cell_box, sn_cell_ball, sn_ball_cell, sn_box_ball, sn_box_cell, decide_false]
  refine ⟨_, sq, tup_right _ (d2 _ _ (by omega)) l20 od ?_⟩
  simp (disch := first | assumption | decide) only [wSeq, wNext, wAsg, wgName, wIfS, wB, wOp, wVar, wC, wCall, wCallK, wCons, wNil, wRet, wRetN, wDrop, wTup, wLst, wIf, wAnd, wOr, wNot, wAndV, wOrV, wNotV, wNeg, wChain, fI, fI0, addD, fLt, fLe, fGt, fGe, fIsB, wCB, fAbs, f2I, fInt, fIsq, wPar, wPar3, permD, startE, List.map_cons, List.map_nil, List.cons_append, List.nil_append, List.append_nil, List.length_cons, List.length_nil, List.replicate, List.getElem?_cons_zero, List.getElem?_cons_succ, List.set_cons_zero, List.set_cons_succ, List.getD_cons_zero, List.getD_cons_succ, Nat.reduceAdd, Nat.reduceSub, Nat.zero_add, true_and, and_true, Bool.not_true, Bool.not_false, if_true, if_false, Bool.false_eq_true, reduceIte, decide_eq_true_eq, Bool.not_eq_true', decide_eq_false_iff_not, eqV_int, eqV_str, eqV_bl, decide_true, reduceCtorEq, not_true_eq_false, not_false_eq_true, Bool.not_eq_true, List.not_mem_nil, false_implies, implies_true, Int.reduceNeg, Int.reduceToNat, Int.reducePow, Int.reduceMul, Int.reduceAdd, draw_i, ix_t0, ix_t1, ix_t2, ix_t3, ix_m3, ix_m4, sn_ball_box, sn_cell_box, sn_cell_ball, sn_ball_cell, sn_box_ball, sn_box_cell, decide_false]
  refine tok_right setM_same l20 od ?_
  simp (disch := first | assumption | decide) only [wSeq, wNext, wAsg, wgName, wIfS, wB, wOp, wVar, wC, wCall, wCallK, wCons, wNil, wRet, wRetN, wDrop, wTup, wLst, wIf, wAnd, wOr, wNot, wAndV, wOrV, wNotV, wNeg, wChain, fI, fI0, addD, fLt, fLe, fGt, fGe, fIsB, wCB, fAbs, f2I, fInt, fIsq, wPar, wPar3, permD, startE, List.map_cons, List.map_nil, List.cons_append, List.nil_append, List.append_nil, List.length_cons, List.length_nil, List.replicate, List.getElem?_cons_zero, List.getElem?_cons_succ, List.set_cons_zero, List.set_cons_succ, List.getD_cons_zero, List.getD_cons_succ, Nat.reduceAdd, Nat.reduceSub, Nat.zero_add, true_and, and_true, Bool.not_true, Bool.not_false, if_true, if_false, Bool.false_eq_true, reduceIte, decide_eq_true_eq, Bool.not_eq_true', decide_eq_false_iff_not, eqV_int, eqV_str, eqV_bl, decide_true, reduceCtorEq, not_true_eq_false, not_false_eq_true, Bool.not_eq_true, List.not_mem_nil, false_implies, implies_true, Int.reduceNeg, Int.reduceToNat, Int.reducePow, Int.reduceMul, Int.reduceAdd, draw_i, ix_t0, ix_t1, ix_t2, ix_t3, ix_m3, ix_m4, sn_ball_box, sn_cell_box, sn_cell_ball, sn_ball_cell, sn_box_ball, sn_box_cell, decide_false]
  subst hK
  simp (disch := first | assumption | decide) only [wSeq, wNext, wAsg, wgName, wIfS, wB, wOp, wVar, wC, wCall, wCallK, wCons, wNil, wRet, wRetN, wDrop, wTup, wLst, wIf, wAnd, wOr, wNot, wAndV, wOrV, wNotV, wNeg, wChain, fI, fI0, addD, fLt, fLe, fGt, fGe, fIsB, wCB, fAbs, f2I, fInt, fIsq, wPar, wPar3, permD, startE, List.map_cons, List.map_nil, List.cons_append, List.nil_append, List.append_nil, List.length_cons, List.length_nil, List.replicate, List.getElem?_cons_zero, List.getElem?_cons_succ, List.set_cons_zero, List.set_cons_succ, List.getD_cons_zero, List.getD_cons_succ, Nat.reduceAdd, Nat.reduceSub, Nat.zero_add, true_and, and_true, Bool.not_true, Bool.not_false, if_true, if_false, Bool.false_eq_true, reduceIte, decide_eq_true_eq, Bool.not_eq_true', decide_eq_false_iff_not, eqV_int, eqV_str, eqV_bl, decide_true, reduceCtorEq, not_true_eq_false, not_false_eq_true, Bool.not_eq_true, List.not_mem_nil, false_implies, implies_true, Int.reduceNeg, Int.reduceToNat, Int.reducePow, Int.reduceMul, Int.reduceAdd, draw_i, ix_t0, ix_t1, ix_t2, ix_t3, ix_m3, ix_m4, sn_ball_box, sn_cell_box, sn_cell_ball, sn_ball_cell, sn_box_ball, sn_box_cell, decide_false, wSl, wNoP, wPart, fTuple]
  cases es with
  | nil =>
    simp at le
    omega
  | cons e es =>
    have hd : F__law_right [.tup es, .int (p : Int), .int (-1)] (setM M f (.lst (e :: es))) Q fun _ _ _ => False := tup_right _ (d2 es _ (by rw [List.length_cons] at le; omega)) (by rw [List.length_cons] at l20; omega) (fun d h => od d (List.mem_cons_of_mem _ h)) (q _ (uf _))
    refine ⟨_, ⟨f, .inl rfl⟩, sq, ?_⟩
    rw [cut_tail]
    exact ⟨_, rfl, hd⟩
theorem spoilt_i {M : Mp} {a a0 : Addr} {p : Nat} {v : List Int} {Q : KD} {R} (hm : M a = some (.drw a0)) (p1 : 1 ≤ p) (p8 : p ≤ 8) (hv : vk p 10000 v) (q : ∀ M', Up M M' → Q (.bl true) M') : F__law_spoilt_right [.tok a, vec v] M Q R := ⟨a, a0, p, v, rfl, hm, p1, p8, hv, q⟩
end K01
namespace K01
open PySem L2 L3
/-! the text of integers -/
theorem okS (s : String) : PySem.PyData.strOk (Str.ofString s) = true := by
  rw [Str.ofString_eq_toList]
  unfold PySem.PyData.strOk
  show ((s.toList.map Char.toNat).toArray.all fun x => decide (x < 1114112)) = true
  simp only [List.all_toArray, List.all_map, List.all_eq_true]
  intro c _
  simp only [Function.comp, decide_eq_true_eq]
  have h := c.valid
  show c.val.toNat < _
  rcases h with h | ⟨_, h⟩
  · exact Nat.lt_trans h (by decide)
  · exact h
theorem okA {x y : Str} (hx : PySem.PyData.strOk x = true) (hy : PySem.PyData.strOk y = true) : PySem.PyData.strOk (x ++ y) = true := by
  unfold PySem.PyData.strOk at hx hy ⊢
  show (x.cps ++ y.cps).all _ = true
  rw [Array.all_append, hx, hy]
  rfl
theorem okJ : ∀ {ts : List Str}, (∀ t ∈ ts, PySem.PyData.strOk t = true) → PySem.PyData.strOk (Str.join ", " ts) = true
  | [], _ => by decide +kernel
  | [x], h => h x (List.mem_singleton.mpr rfl)
  | x :: y :: r, h => okA (okA (h x List.mem_cons_self) (by decide +kernel)) (okJ (ts := y :: r) fun t ht => h t (List.mem_cons_of_mem _ ht))
theorem all_ints : ∀ {v : List Int}, ∀ t ∈ PyData.shownAll (pyL (v.map D.int)), PySem.PyData.strOk t = true
  | [], t, ht => by cases ht
  | i :: v, t, ht => by
    have ht : t ∈ PyData.shown (D.int i).py :: PyData.shownAll (pyL (v.map D.int)) := ht
    rcases List.mem_cons.mp ht with rfl | ht
    · exact okS _
    · exact all_ints t ht
theorem ints_text (v : List Int) : PySem.PyData.strOk (shown (.tup (v.map .int))) = true := by
  have e : shown (.tup (v.map .int)) = tupleText (PyData.shownAll (pyL (v.map D.int))) := rfl
  rw [e]
  unfold tupleText
  refine okA (okA (by decide +kernel) (okJ all_ints)) ?_
  split
  · decide +kernel
  · decide +kernel
theorem rep_len {d : D} : ∀ k : Nat, (List.replicate k [d]).flatten.length = k
  | 0 => rfl
  | k + 1 => by
    rw [List.replicate_succ, List.flatten_cons, List.length_append, rep_len k, List.length_singleton, Nat.add_comm]
theorem rep_mem {d e : D} {k : Nat} (h : e ∈ (List.replicate k [d]).flatten) : e = d := by
  obtain ⟨l, hl, he⟩ := List.mem_flatten.mp h
  rw [List.eq_of_mem_replicate hl] at he
  exact List.mem_singleton.mp he
def kinds4 : List Str := ["square", "sum", "most", "unlike"]
theorem near_no : ∀ x ∈ kinds4, ∀ y ∈ [x ++ ("s" : Str), cutS x none (some (-1)), Txt.upper x, x ++ (" " : Str), ("" : Str)], kindB (.str y) = false ∧ PySem.PyData.strOk y = true := by decide +kernel
theorem kind4 : ∀ x ∈ kinds4, kindB (.str x) = true ∧ PySem.PyData.strOk x = true ∧ x.length + 1 ≤ sizeLine ∧ x.length ≤ 5592405 := by decide +kernel
theorem kind_i {M : Mp} {d : D} {Q : KD} {R} (h : tyOk M d) (hs : ∀ x, d = .str x → PySem.PyData.strOk x = true) (q : Q (.bl (kindB d)) M) : F_is_kind [d] M Q R := ⟨d, rfl, h, hs, q⟩
end K01
namespace K01
open PySem L2 L3
theorem ints_odd {p : Nat} {v : List Int} (h : vk p 10000 v) : ∀ e ∈ v.map D.int, oddP e := fun e he => by
  obtain ⟨b, hb, rfl⟩ := List.mem_map.mp he
  exact .inl ⟨b, rfl, h.2 b hb⟩
theorem ints_none : ∀ (v : List Int) (i : Nat), firstBad (v.map D.int) i = none
  | [], _ => rfl
  | b :: v, i => by
    show (if intB (.int b) = true then firstBad (v.map D.int) (i + 1) else some i) = none
    rw [if_pos (show intB (.int b) = true from rfl)]
    exact ints_none v (i + 1)
theorem due_in {v : List Int} {n : Int} (h : (v.length : Int) = n) : optI (vdue (.tup (v.map .int)) n) = .non := by
  show optI (if ((v.map D.int).length : Int) = n then _ else some (-1)) = _
  rw [List.length_map, if_pos h, ints_none]
  rfl
theorem due_no {es : List D} {n : Int} (h : (es.length : Int) ≠ n) : optI (vdue (.tup es) n) = .int (-1) := by
  show optI (if (es.length : Int) = n then _ else some (-1)) = _
  rw [if_neg h]
  rfl
theorem right_o {M : Mp} {d : D} {n : Int} {Q : KD} {R} (h1 : tyOk M d) (h2 : ∀ es, d ≠ .tup es) (hr : res M d = d) (h3 : shw 6 d) (h4 : cost d ≤ 100000) (q : Q (.bl true) M) : F__law_right [d, .int n, .int (-1)] M Q R := by
  refine right_i (.int (-1)) ?_ ⟨h1, fun es e => absurd e (h2 es)⟩ ⟨6, by decide, by rw [hr]; exact h3, by rw [hr]; omega⟩ q
  cases d with
  | tup es => exact absurd rfl (h2 es)
  | _ => rfl
theorem wp_law : ∀ ds M Q R, F_law ds M Q R → W_law { nx := fun _ M' => Q .non M', rt := Q, xr := lx R } (startE 11 ds) M := by
  rintro ds M Q R ⟨ns, rfl, hl, q⟩
  unfold W_law
  have cp : CPow 10 4 := ⟨by decide, by decide, by decide⟩
  refine seq_gen fun K hK => ?_
  simp (disch := first | assumption | decide) only [wSeq, wNext, wAsg, wgName, wIfS, wB, wOp, wVar, wC, wCall, wCallK, wCons, wNil, wRet, wRetN, wDrop, wTup, wLst, wIf, wAnd, wOr, wNot, wAndV, wOrV, wNotV, wNeg, wChain, fI, fI0, addD, fLt, fLe, fGt, fGe, fIsB, wCB, fAbs, f2I, fInt, fIsq, wPar, wPar3, permD, startE, List.map_cons, List.map_nil, List.cons_append, List.nil_append, List.append_nil, List.length_cons, List.length_nil, List.replicate, List.getElem?_cons_zero, List.getElem?_cons_succ, List.set_cons_zero, List.set_cons_succ, List.getD_cons_zero, List.getD_cons_succ, Nat.reduceAdd, Nat.reduceSub, Nat.zero_add, true_and, and_true, Bool.not_true, Bool.not_false, if_true, if_false, Bool.false_eq_true, reduceIte, decide_eq_true_eq, Bool.not_eq_true', decide_eq_false_iff_not, eqV_int, eqV_str, eqV_bl, decide_true, reduceCtorEq, not_true_eq_false, not_false_eq_true, Bool.not_eq_true, List.not_mem_nil, false_implies, implies_true, Int.reduceNeg, Int.reduceToNat, Int.reducePow, Int.reduceMul, Int.reduceAdd, draw_i, ix_t0, ix_t1, ix_t2, ix_t3, ix_m3, ix_m4, sn_ball_box, sn_cell_box, sn_cell_ball, sn_ball_cell, sn_box_ball, sn_box_cell, decide_false]
  refine ⟨ns, rfl, hl, fun M1 a a0 ha u0 => ?_⟩
  subst hK
  refine seq_gen fun K hK => ?_
  refine for_gen fun B hB => ?_
  simp (disch := first | assumption | decide) only [wSeq, wNext, wAsg, wgName, wIfS, wB, wOp, wVar, wC, wCall, wCallK, wCons, wNil, wRet, wRetN, wDrop, wTup, wLst, wIf, wAnd, wOr, wNot, wAndV, wOrV, wNotV, wNeg, wChain, fI, fI0, addD, fLt, fLe, fGt, fGe, fIsB, wCB, fAbs, f2I, fInt, fIsq, wPar, wPar3, permD, startE, List.map_cons, List.map_nil, List.cons_append, List.nil_append, List.append_nil, List.length_cons, List.length_nil, List.replicate, List.getElem?_cons_zero, List.getElem?_cons_succ, List.set_cons_zero, List.set_cons_succ, List.getD_cons_zero, List.getD_cons_succ, Nat.reduceAdd, Nat.reduceSub, Nat.zero_add, true_and, and_true, Bool.not_true, Bool.not_false, if_true, if_false, Bool.false_eq_true, reduceIte, decide_eq_true_eq, Bool.not_eq_true', decide_eq_false_iff_not, eqV_int, eqV_str, eqV_bl, decide_true, reduceCtorEq, not_true_eq_false, not_false_eq_true, Bool.not_eq_true, List.not_mem_nil, false_implies, implies_true, Int.reduceNeg, Int.reduceToNat, Int.reducePow, Int.reduceMul, Int.reduceAdd, draw_i, ix_t0, ix_t1, ix_t2, ix_t3, ix_m3, ix_m4, sn_ball_box, sn_cell_box, sn_cell_ball, sn_ball_cell, sn_box_ball, sn_box_cell, decide_false, wFor, wiRange1]
  refine ⟨by decide, by decide, ?_⟩
  refine loop_ix (fun i ρ' M' => Up M1 M' ∧ ∃ v2 v3 v4 v5 v6 v7 v8 v9 v10, ρ' = [some (.lst (ns.map .int)), some (.tok a), v2, v3, v4, v5, v6, v7, v8, v9, v10]) ?_ ?_ ⟨Up.refl _, _, _, _, _, _, _, _, _, _, rfl⟩
  · rintro i d ρ' M2 hi ⟨u2, v2, v3, v4, v5, v6, v7, v8, v9, v10, rfl⟩
    obtain ⟨li, rfl⟩ := intsD_get hi
    refine ⟨True.intro, fun K2 hK2 => ?_⟩
    have ha2 := u2 _ _ ha
    simp only [wgName, List.set_cons_succ, List.set_cons_zero]
    subst hB
    refine seq_gen fun K3 hK3 => ?_
    simp (disch := first | assumption | decide) only [wSeq, wNext, wAsg, wgName, wIfS, wB, wOp, wVar, wC, wCall, wCallK, wCons, wNil, wRet, wRetN, wDrop, wTup, wLst, wIf, wAnd, wOr, wNot, wAndV, wOrV, wNotV, wNeg, wChain, fI, fI0, addD, fLt, fLe, fGt, fGe, fIsB, wCB, fAbs, f2I, fInt, fIsq, wPar, wPar3, permD, startE, List.map_cons, List.map_nil, List.cons_append, List.nil_append, List.append_nil, List.length_cons, List.length_nil, List.replicate, List.getElem?_cons_zero, List.getElem?_cons_succ, List.set_cons_zero, List.set_cons_succ, List.getD_cons_zero, List.getD_cons_succ, Nat.reduceAdd, Nat.reduceSub, Nat.zero_add, true_and, and_true, Bool.not_true, Bool.not_false, if_true, if_false, Bool.false_eq_true, reduceIte, decide_eq_true_eq, Bool.not_eq_true', decide_eq_false_iff_not, eqV_int, eqV_str, eqV_bl, decide_true, reduceCtorEq, not_true_eq_false, not_false_eq_true, Bool.not_eq_true, List.not_mem_nil, false_implies, implies_true, Int.reduceNeg, Int.reduceToNat, Int.reducePow, Int.reduceMul, Int.reduceAdd, draw_i, ix_t0, ix_t1, ix_t2, ix_t3, ix_m3, ix_m4, sn_ball_box, sn_cell_box, sn_cell_ball, sn_ball_cell, sn_box_ball, sn_box_cell, decide_false, wLc, wiRange1, wipeE]
    intro j j0 j1
    obtain ⟨j, rfl⟩ := Int.eq_ofNat_of_zero_le j0
    refine ⟨by omega, by omega, ?_⟩
    obtain ⟨p, ep, p1, p8⟩ : ∃ p : Nat, (1 + (j : Int)).toNat = p ∧ 1 ≤ p ∧ p ≤ 8 := ⟨_, rfl, by omega, by omega⟩
    rw [ep]
    refine lc_any (fun _ y => ∃ b : Int, y = .int b ∧ -10000 ≤ b ∧ b ≤ 10000) True.intro _ [] (by rw [intsD_len]; simp only [List.length_nil]; omega) (fun d hd K4 hK4 => ?_) fun ys hy1 hy2 => ?_
    · simp (disch := first | assumption | decide) only [wSeq, wNext, wAsg, wgName, wIfS, wB, wOp, wVar, wC, wCall, wCallK, wCons, wNil, wRet, wRetN, wDrop, wTup, wLst, wIf, wAnd, wOr, wNot, wAndV, wOrV, wNotV, wNeg, wChain, fI, fI0, addD, fLt, fLe, fGt, fGe, fIsB, wCB, fAbs, f2I, fInt, fIsq, wPar, wPar3, permD, startE, List.map_cons, List.map_nil, List.cons_append, List.nil_append, List.append_nil, List.length_cons, List.length_nil, List.replicate, List.getElem?_cons_zero, List.getElem?_cons_succ, List.set_cons_zero, List.set_cons_succ, List.getD_cons_zero, List.getD_cons_succ, Nat.reduceAdd, Nat.reduceSub, Nat.zero_add, true_and, and_true, Bool.not_true, Bool.not_false, if_true, if_false, Bool.false_eq_true, reduceIte, decide_eq_true_eq, Bool.not_eq_true', decide_eq_false_iff_not, eqV_int, eqV_str, eqV_bl, decide_true, reduceCtorEq, not_true_eq_false, not_false_eq_true, Bool.not_eq_true, List.not_mem_nil, false_implies, implies_true, Int.reduceNeg, Int.reduceToNat, Int.reducePow, Int.reduceMul, Int.reduceAdd, draw_i, ix_t0, ix_t1, ix_t2, ix_t3, ix_m3, ix_m4, sn_ball_box, sn_cell_box, sn_cell_ball, sn_ball_cell, sn_box_ball, sn_box_cell, decide_false]
      simp only [eq_true cp, true_and]
      refine ⟨cm_of (by omega) (by omega), fun k k0 k1 => hK4 _ ⟨_, rfl, by omega, by omega⟩⟩
    rw [List.nil_append]
    rw [intsD_len] at hy1
    obtain ⟨v, rfl, hvb⟩ := ints_of (R := fun b => -10000 ≤ b ∧ b ≤ 10000) (ys := ys) fun y hy => by
      obtain ⟨i, hi⟩ := List.mem_iff_getElem?.mp hy
      obtain ⟨_, _, h⟩ := hy2 i y hi
      exact h
    rw [List.length_map] at hy1
    have hv : vk p 10000 v := ⟨hy1, hvb⟩
    simp (disch := first | assumption | decide) only [wSeq, wNext, wAsg, wgName, wIfS, wB, wOp, wVar, wC, wCall, wCallK, wCons, wNil, wRet, wRetN, wDrop, wTup, wLst, wIf, wAnd, wOr, wNot, wAndV, wOrV, wNotV, wNeg, wChain, fI, fI0, addD, fLt, fLe, fGt, fGe, fIsB, wCB, fAbs, f2I, fInt, fIsq, wPar, wPar3, permD, startE, List.map_cons, List.map_nil, List.cons_append, List.nil_append, List.append_nil, List.length_cons, List.length_nil, List.replicate, List.getElem?_cons_zero, List.getElem?_cons_succ, List.set_cons_zero, List.set_cons_succ, List.getD_cons_zero, List.getD_cons_succ, Nat.reduceAdd, Nat.reduceSub, Nat.zero_add, true_and, and_true, Bool.not_true, Bool.not_false, if_true, if_false, Bool.false_eq_true, reduceIte, decide_eq_true_eq, Bool.not_eq_true', decide_eq_false_iff_not, eqV_int, eqV_str, eqV_bl, decide_true, reduceCtorEq, not_true_eq_false, not_false_eq_true, Bool.not_eq_true, List.not_mem_nil, false_implies, implies_true, Int.reduceNeg, Int.reduceToNat, Int.reducePow, Int.reduceMul, Int.reduceAdd, draw_i, ix_t0, ix_t1, ix_t2, ix_t3, ix_m3, ix_m4, sn_ball_box, sn_cell_box, sn_cell_ball, sn_ball_cell, sn_box_ball, sn_box_cell, decide_false, fTuple]
    refine ⟨_, rfl, ?_⟩
    subst hK3
    refine seq_gen fun K3 hK3 => ?_
    simp (disch := first | assumption | decide) only [wSeq, wNext, wAsg, wgName, wIfS, wB, wOp, wVar, wC, wCall, wCallK, wCons, wNil, wRet, wRetN, wDrop, wTup, wLst, wIf, wAnd, wOr, wNot, wAndV, wOrV, wNotV, wNeg, wChain, fI, fI0, addD, fLt, fLe, fGt, fGe, fIsB, wCB, fAbs, f2I, fInt, fIsq, wPar, wPar3, permD, startE, List.map_cons, List.map_nil, List.cons_append, List.nil_append, List.append_nil, List.length_cons, List.length_nil, List.replicate, List.getElem?_cons_zero, List.getElem?_cons_succ, List.set_cons_zero, List.set_cons_succ, List.getD_cons_zero, List.getD_cons_succ, Nat.reduceAdd, Nat.reduceSub, Nat.zero_add, true_and, and_true, Bool.not_true, Bool.not_false, if_true, if_false, Bool.false_eq_true, reduceIte, decide_eq_true_eq, Bool.not_eq_true', decide_eq_false_iff_not, eqV_int, eqV_str, eqV_bl, decide_true, reduceCtorEq, not_true_eq_false, not_false_eq_true, Bool.not_eq_true, List.not_mem_nil, false_implies, implies_true, Int.reduceNeg, Int.reduceToNat, Int.reducePow, Int.reduceMul, Int.reduceAdd, draw_i, ix_t0, ix_t1, ix_t2, ix_t3, ix_m3, ix_m4, sn_ball_box, sn_cell_box, sn_cell_ball, sn_ball_cell, sn_box_ball, sn_box_cell, decide_false, len_tup]
    rw [List.length_map, hy1]
    subst hK3
    refine seq_gen fun K3 hK3 => ?_
    simp (disch := first | assumption | decide) only [wSeq, wNext, wAsg, wgName, wIfS, wB, wOp, wVar, wC, wCall, wCallK, wCons, wNil, wRet, wRetN, wDrop, wTup, wLst, wIf, wAnd, wOr, wNot, wAndV, wOrV, wNotV, wNeg, wChain, fI, fI0, addD, fLt, fLe, fGt, fGe, fIsB, wCB, fAbs, f2I, fInt, fIsq, wPar, wPar3, permD, startE, List.map_cons, List.map_nil, List.cons_append, List.nil_append, List.append_nil, List.length_cons, List.length_nil, List.replicate, List.getElem?_cons_zero, List.getElem?_cons_succ, List.set_cons_zero, List.set_cons_succ, List.getD_cons_zero, List.getD_cons_succ, Nat.reduceAdd, Nat.reduceSub, Nat.zero_add, true_and, and_true, Bool.not_true, Bool.not_false, if_true, if_false, Bool.false_eq_true, reduceIte, decide_eq_true_eq, Bool.not_eq_true', decide_eq_false_iff_not, eqV_int, eqV_str, eqV_bl, decide_true, reduceCtorEq, not_true_eq_false, not_false_eq_true, Bool.not_eq_true, List.not_mem_nil, false_implies, implies_true, Int.reduceNeg, Int.reduceToNat, Int.reducePow, Int.reduceMul, Int.reduceAdd, draw_i, ix_t0, ix_t1, ix_t2, ix_t3, ix_m3, ix_m4, sn_ball_box, sn_cell_box, sn_cell_ball, sn_ball_cell, sn_box_ball, sn_box_cell, decide_false]
    have vo := ints_odd hv
    have vl : (v.map D.int).length = p := by rw [List.length_map]; exact hy1
    refine tup_right _ (due_in (by omega)) (by omega) vo ?_
    simp (disch := first | assumption | decide) only [wSeq, wNext, wAsg, wgName, wIfS, wB, wOp, wVar, wC, wCall, wCallK, wCons, wNil, wRet, wRetN, wDrop, wTup, wLst, wIf, wAnd, wOr, wNot, wAndV, wOrV, wNotV, wNeg, wChain, fI, fI0, addD, fLt, fLe, fGt, fGe, fIsB, wCB, fAbs, f2I, fInt, fIsq, wPar, wPar3, permD, startE, List.map_cons, List.map_nil, List.cons_append, List.nil_append, List.append_nil, List.length_cons, List.length_nil, List.replicate, List.getElem?_cons_zero, List.getElem?_cons_succ, List.set_cons_zero, List.set_cons_succ, List.getD_cons_zero, List.getD_cons_succ, Nat.reduceAdd, Nat.reduceSub, Nat.zero_add, true_and, and_true, Bool.not_true, Bool.not_false, if_true, if_false, Bool.false_eq_true, reduceIte, decide_eq_true_eq, Bool.not_eq_true', decide_eq_false_iff_not, eqV_int, eqV_str, eqV_bl, decide_true, reduceCtorEq, not_true_eq_false, not_false_eq_true, Bool.not_eq_true, List.not_mem_nil, false_implies, implies_true, Int.reduceNeg, Int.reduceToNat, Int.reducePow, Int.reduceMul, Int.reduceAdd, draw_i, ix_t0, ix_t1, ix_t2, ix_t3, ix_m3, ix_m4, sn_ball_box, sn_cell_box, sn_cell_ball, sn_ball_cell, sn_box_ball, sn_box_cell, decide_false]
    refine ⟨by decide, pick_q ha2 rfl (by decide) (by decide) fun x hx => ?_⟩
    obtain ⟨g, rfl, g0⟩ : ∃ g : Int, x = .int g ∧ g ≠ 0 := by
      simp only [List.mem_cons, List.not_mem_nil, or_false] at hx
      rcases hx with rfl | rfl | rfl
      · exact ⟨_, rfl, by decide⟩
      · exact ⟨_, rfl, by decide⟩
      · exact ⟨_, rfl, by decide⟩
    dsimp only
    refine tup_right _ (due_no (by rw [vl]; omega)) (by omega) vo ?_
    simp (disch := first | assumption | decide) only [wSeq, wNext, wAsg, wgName, wIfS, wB, wOp, wVar, wC, wCall, wCallK, wCons, wNil, wRet, wRetN, wDrop, wTup, wLst, wIf, wAnd, wOr, wNot, wAndV, wOrV, wNotV, wNeg, wChain, fI, fI0, addD, fLt, fLe, fGt, fGe, fIsB, wCB, fAbs, f2I, fInt, fIsq, wPar, wPar3, permD, startE, List.map_cons, List.map_nil, List.cons_append, List.nil_append, List.append_nil, List.length_cons, List.length_nil, List.replicate, List.getElem?_cons_zero, List.getElem?_cons_succ, List.set_cons_zero, List.set_cons_succ, List.getD_cons_zero, List.getD_cons_succ, Nat.reduceAdd, Nat.reduceSub, Nat.zero_add, true_and, and_true, Bool.not_true, Bool.not_false, if_true, if_false, Bool.false_eq_true, reduceIte, decide_eq_true_eq, Bool.not_eq_true', decide_eq_false_iff_not, eqV_int, eqV_str, eqV_bl, decide_true, reduceCtorEq, not_true_eq_false, not_false_eq_true, Bool.not_eq_true, List.not_mem_nil, false_implies, implies_true, Int.reduceNeg, Int.reduceToNat, Int.reducePow, Int.reduceMul, Int.reduceAdd, draw_i, ix_t0, ix_t1, ix_t2, ix_t3, ix_m3, ix_m4, sn_ball_box, sn_cell_box, sn_cell_ball, sn_ball_cell, sn_box_ball, sn_box_cell, decide_false]
    subst hK3
    refine seq_gen fun K3 hK3 => ?_
    refine for_gen fun B hB => ?_
    simp (disch := first | assumption | decide) only [wSeq, wNext, wAsg, wgName, wIfS, wB, wOp, wVar, wC, wCall, wCallK, wCons, wNil, wRet, wRetN, wDrop, wTup, wLst, wIf, wAnd, wOr, wNot, wAndV, wOrV, wNotV, wNeg, wChain, fI, fI0, addD, fLt, fLe, fGt, fGe, fIsB, wCB, fAbs, f2I, fInt, fIsq, wPar, wPar3, permD, startE, List.map_cons, List.map_nil, List.cons_append, List.nil_append, List.append_nil, List.length_cons, List.length_nil, List.replicate, List.getElem?_cons_zero, List.getElem?_cons_succ, List.set_cons_zero, List.set_cons_succ, List.getD_cons_zero, List.getD_cons_succ, Nat.reduceAdd, Nat.reduceSub, Nat.zero_add, true_and, and_true, Bool.not_true, Bool.not_false, if_true, if_false, Bool.false_eq_true, reduceIte, decide_eq_true_eq, Bool.not_eq_true', decide_eq_false_iff_not, eqV_int, eqV_str, eqV_bl, decide_true, reduceCtorEq, not_true_eq_false, not_false_eq_true, Bool.not_eq_true, List.not_mem_nil, false_implies, implies_true, Int.reduceNeg, Int.reduceToNat, Int.reducePow, Int.reduceMul, Int.reduceAdd, draw_i, ix_t0, ix_t1, ix_t2, ix_t3, ix_m3, ix_m4, sn_ball_box, sn_cell_box, sn_cell_ball, sn_ball_cell, sn_box_ball, sn_box_cell, decide_false, wFor, wiRange1]
    refine ⟨by decide, by decide, ?_⟩
    refine loop_ix (fun i' ρ' M' => Up M1 M' ∧ ∃ v7, ρ' = [some (.lst (ns.map .int)), some (.tok a), some (.int (0 + (i : Int))), v3, v4, some (.tup (v.map .int)), some (.int (p : Int)), v7, v8, v9, v10]) ?_ ?_ ⟨u2, _, rfl⟩
    · rintro i' d ρ' M3 hi' ⟨u3, v7, rfl⟩
      refine ⟨True.intro, fun K4 hK4 => ?_⟩
      subst hB
      simp (disch := first | assumption | decide) only [wSeq, wNext, wAsg, wgName, wIfS, wB, wOp, wVar, wC, wCall, wCallK, wCons, wNil, wRet, wRetN, wDrop, wTup, wLst, wIf, wAnd, wOr, wNot, wAndV, wOrV, wNotV, wNeg, wChain, fI, fI0, addD, fLt, fLe, fGt, fGe, fIsB, wCB, fAbs, f2I, fInt, fIsq, wPar, wPar3, permD, startE, List.map_cons, List.map_nil, List.cons_append, List.nil_append, List.append_nil, List.length_cons, List.length_nil, List.replicate, List.getElem?_cons_zero, List.getElem?_cons_succ, List.set_cons_zero, List.set_cons_succ, List.getD_cons_zero, List.getD_cons_succ, Nat.reduceAdd, Nat.reduceSub, Nat.zero_add, true_and, and_true, Bool.not_true, Bool.not_false, if_true, if_false, Bool.false_eq_true, reduceIte, decide_eq_true_eq, Bool.not_eq_true', decide_eq_false_iff_not, eqV_int, eqV_str, eqV_bl, decide_true, reduceCtorEq, not_true_eq_false, not_false_eq_true, Bool.not_eq_true, List.not_mem_nil, false_implies, implies_true, Int.reduceNeg, Int.reduceToNat, Int.reducePow, Int.reduceMul, Int.reduceAdd, draw_i, ix_t0, ix_t1, ix_t2, ix_t3, ix_m3, ix_m4, sn_ball_box, sn_cell_box, sn_cell_ball, sn_ball_cell, sn_box_ball, sn_box_cell, decide_false]
      refine spoilt_i (u3 _ _ ha) p1 p8 hv fun M4 u4 => ?_
      simp (disch := first | assumption | decide) only [wSeq, wNext, wAsg, wgName, wIfS, wB, wOp, wVar, wC, wCall, wCallK, wCons, wNil, wRet, wRetN, wDrop, wTup, wLst, wIf, wAnd, wOr, wNot, wAndV, wOrV, wNotV, wNeg, wChain, fI, fI0, addD, fLt, fLe, fGt, fGe, fIsB, wCB, fAbs, f2I, fInt, fIsq, wPar, wPar3, permD, startE, List.map_cons, List.map_nil, List.cons_append, List.nil_append, List.append_nil, List.length_cons, List.length_nil, List.replicate, List.getElem?_cons_zero, List.getElem?_cons_succ, List.set_cons_zero, List.set_cons_succ, List.getD_cons_zero, List.getD_cons_succ, Nat.reduceAdd, Nat.reduceSub, Nat.zero_add, true_and, and_true, Bool.not_true, Bool.not_false, if_true, if_false, Bool.false_eq_true, reduceIte, decide_eq_true_eq, Bool.not_eq_true', decide_eq_false_iff_not, eqV_int, eqV_str, eqV_bl, decide_true, reduceCtorEq, not_true_eq_false, not_false_eq_true, Bool.not_eq_true, List.not_mem_nil, false_implies, implies_true, Int.reduceNeg, Int.reduceToNat, Int.reducePow, Int.reduceMul, Int.reduceAdd, draw_i, ix_t0, ix_t1, ix_t2, ix_t3, ix_m3, ix_m4, sn_ball_box, sn_cell_box, sn_cell_ball, sn_ball_cell, sn_box_ball, sn_box_cell, decide_false]
      exact hK4 _ _ ⟨u3.trans u4, _, rfl⟩
    rintro ρ' M3 ⟨u3, v7, rfl⟩
    refine ⟨True.intro, ?_⟩
    show K3 _ _
    subst hK3
    refine for_gen fun B hB => ?_
    simp (disch := first | assumption | decide) only [wSeq, wNext, wAsg, wgName, wIfS, wB, wOp, wVar, wC, wCall, wCallK, wCons, wNil, wRet, wRetN, wDrop, wTup, wLst, wIf, wAnd, wOr, wNot, wAndV, wOrV, wNotV, wNeg, wChain, fI, fI0, addD, fLt, fLe, fGt, fGe, fIsB, wCB, fAbs, f2I, fInt, fIsq, wPar, wPar3, permD, startE, List.map_cons, List.map_nil, List.cons_append, List.nil_append, List.append_nil, List.length_cons, List.length_nil, List.replicate, List.getElem?_cons_zero, List.getElem?_cons_succ, List.set_cons_zero, List.set_cons_succ, List.getD_cons_zero, List.getD_cons_succ, Nat.reduceAdd, Nat.reduceSub, Nat.zero_add, true_and, and_true, Bool.not_true, Bool.not_false, if_true, if_false, Bool.false_eq_true, reduceIte, decide_eq_true_eq, Bool.not_eq_true', decide_eq_false_iff_not, eqV_int, eqV_str, eqV_bl, decide_true, reduceCtorEq, not_true_eq_false, not_false_eq_true, Bool.not_eq_true, List.not_mem_nil, false_implies, implies_true, Int.reduceNeg, Int.reduceToNat, Int.reducePow, Int.reduceMul, Int.reduceAdd, draw_i, ix_t0, ix_t1, ix_t2, ix_t3, ix_m3, ix_m4, sn_ball_box, sn_cell_box, sn_cell_ball, sn_ball_cell, sn_box_ball, sn_box_cell, decide_false, wFor, wiSeq, fList, fTuple, len_tup]
    refine ⟨_, rfl, ?_⟩
    simp (disch := first | assumption | decide) only [wSeq, wNext, wAsg, wgName, wIfS, wB, wOp, wVar, wC, wCall, wCallK, wCons, wNil, wRet, wRetN, wDrop, wTup, wLst, wIf, wAnd, wOr, wNot, wAndV, wOrV, wNotV, wNeg, wChain, fI, fI0, addD, fLt, fLe, fGt, fGe, fIsB, wCB, fAbs, f2I, fInt, fIsq, wPar, wPar3, permD, startE, List.map_cons, List.map_nil, List.cons_append, List.nil_append, List.append_nil, List.length_cons, List.length_nil, List.replicate, List.getElem?_cons_zero, List.getElem?_cons_succ, List.set_cons_zero, List.set_cons_succ, List.getD_cons_zero, List.getD_cons_succ, Nat.reduceAdd, Nat.reduceSub, Nat.zero_add, true_and, and_true, Bool.not_true, Bool.not_false, if_true, if_false, Bool.false_eq_true, reduceIte, decide_eq_true_eq, Bool.not_eq_true', decide_eq_false_iff_not, eqV_int, eqV_str, eqV_bl, decide_true, reduceCtorEq, not_true_eq_false, not_false_eq_true, Bool.not_eq_true, List.not_mem_nil, false_implies, implies_true, Int.reduceNeg, Int.reduceToNat, Int.reducePow, Int.reduceMul, Int.reduceAdd, draw_i, ix_t0, ix_t1, ix_t2, ix_t3, ix_m3, ix_m4, sn_ball_box, sn_cell_box, sn_cell_ball, sn_ball_cell, sn_box_ball, sn_box_cell, decide_false, wDct0, fStrT]
    have sv : shw 5 (.tup (v.map .int)) := vec_shw hv (by decide)
    have cv : cost (.tup (v.map .int)) ≤ 1700 := by
      have h := costL_le (B := 210) (ys := v.map .int) fun y hy => by
        obtain ⟨b, hb, rfl⟩ := List.mem_map.mp hy
        exact Nat.le_refl _
      rw [vl] at h
      show costL (v.map .int) + 4 ≤ _
      omega
    refine ⟨5, sv, by decide, by omega, by decide, by simp, by omega, by omega, by simp, by decide, ?_⟩
    obtain ⟨es, ees⟩ : ∃ es, es = (List.replicate ((p : Int) + 1).toNat [D.tup (v.map .int)]).flatten := ⟨_, rfl⟩
    rw [← ees]
    have le : es.length = p + 1 := by
      rw [ees, rep_len]
      omega
    have me : ∀ e ∈ es, e = .tup (v.map .int) := fun e he => by
      rw [ees] at he
      exact rep_mem he
    clear ees
    refine loop_ix (fun i' ρ' M' => Up M1 M' ∧ ∃ v8, ρ' = [some (.lst (ns.map .int)), some (.tok a), some (.int (0 + (i : Int))), v3, v4, some (.tup (v.map .int)), some (.int (p : Int)), v7, v8, v9, v10]) ?_ ?_ ⟨u3, _, rfl⟩
    · rintro i' d ρ' M4 hi' ⟨u4, v8, rfl⟩
      refine ⟨True.intro, fun K4 hK4 => ?_⟩
      subst hB
      simp (disch := first | assumption | decide) only [wSeq, wNext, wAsg, wgName, wIfS, wB, wOp, wVar, wC, wCall, wCallK, wCons, wNil, wRet, wRetN, wDrop, wTup, wLst, wIf, wAnd, wOr, wNot, wAndV, wOrV, wNotV, wNeg, wChain, fI, fI0, addD, fLt, fLe, fGt, fGe, fIsB, wCB, fAbs, f2I, fInt, fIsq, wPar, wPar3, permD, startE, List.map_cons, List.map_nil, List.cons_append, List.nil_append, List.append_nil, List.length_cons, List.length_nil, List.replicate, List.getElem?_cons_zero, List.getElem?_cons_succ, List.set_cons_zero, List.set_cons_succ, List.getD_cons_zero, List.getD_cons_succ, Nat.reduceAdd, Nat.reduceSub, Nat.zero_add, true_and, and_true, Bool.not_true, Bool.not_false, if_true, if_false, Bool.false_eq_true, reduceIte, decide_eq_true_eq, Bool.not_eq_true', decide_eq_false_iff_not, eqV_int, eqV_str, eqV_bl, decide_true, reduceCtorEq, not_true_eq_false, not_false_eq_true, Bool.not_eq_true, List.not_mem_nil, false_implies, implies_true, Int.reduceNeg, Int.reduceToNat, Int.reducePow, Int.reduceMul, Int.reduceAdd, draw_i, ix_t0, ix_t1, ix_t2, ix_t3, ix_m3, ix_m4, sn_ball_box, sn_cell_box, sn_cell_ball, sn_ball_cell, sn_box_ball, sn_box_cell, decide_false]
      have md := List.mem_of_getElem? hi'
      simp only [List.mem_cons, List.not_mem_nil, or_false] at md
      have fin : ∀ b : D, K4 [some (.lst (ns.map .int)), some (.tok a), some (.int (0 + (i : Int))), v3, v4, some (.tup (v.map .int)), some (.int (p : Int)), v7, some b, v9, v10] M4 := fun b => hK4 _ _ ⟨u4, _, rfl⟩
      rcases md with rfl | rfl | rfl | rfl | rfl | rfl | rfl
      · refine right_o rfl (fun _ h => nomatch h) rfl (fun e he => ?_) ?_ ?_
        · obtain ⟨b, hb, rfl⟩ := List.mem_map.mp he
          exact Nat.lt_of_lt_of_le (by have := hv.2 b hb; omega : b.natAbs < 2 ^ 30) (by decide)
        · exact Nat.le_trans cv (by decide)
        · simp (disch := first | assumption | decide) only [wSeq, wNext, wAsg, wgName, wIfS, wB, wOp, wVar, wC, wCall, wCallK, wCons, wNil, wRet, wRetN, wDrop, wTup, wLst, wIf, wAnd, wOr, wNot, wAndV, wOrV, wNotV, wNeg, wChain, fI, fI0, addD, fLt, fLe, fGt, fGe, fIsB, wCB, fAbs, f2I, fInt, fIsq, wPar, wPar3, permD, startE, List.map_cons, List.map_nil, List.cons_append, List.nil_append, List.append_nil, List.length_cons, List.length_nil, List.replicate, List.getElem?_cons_zero, List.getElem?_cons_succ, List.set_cons_zero, List.set_cons_succ, List.getD_cons_zero, List.getD_cons_succ, Nat.reduceAdd, Nat.reduceSub, Nat.zero_add, true_and, and_true, Bool.not_true, Bool.not_false, if_true, if_false, Bool.false_eq_true, reduceIte, decide_eq_true_eq, Bool.not_eq_true', decide_eq_false_iff_not, eqV_int, eqV_str, eqV_bl, decide_true, reduceCtorEq, not_true_eq_false, not_false_eq_true, Bool.not_eq_true, List.not_mem_nil, false_implies, implies_true, Int.reduceNeg, Int.reduceToNat, Int.reducePow, Int.reduceMul, Int.reduceAdd, draw_i, ix_t0, ix_t1, ix_t2, ix_t3, ix_m3, ix_m4, sn_ball_box, sn_cell_box, sn_cell_ball, sn_ball_cell, sn_box_ball, sn_box_cell, decide_false]; exact fin _
      · exact right_o rfl (fun _ h => nomatch h) rfl True.intro (by show 5 ≤ 100000; decide) (by simp (disch := first | assumption | decide) only [wSeq, wNext, wAsg, wgName, wIfS, wB, wOp, wVar, wC, wCall, wCallK, wCons, wNil, wRet, wRetN, wDrop, wTup, wLst, wIf, wAnd, wOr, wNot, wAndV, wOrV, wNotV, wNeg, wChain, fI, fI0, addD, fLt, fLe, fGt, fGe, fIsB, wCB, fAbs, f2I, fInt, fIsq, wPar, wPar3, permD, startE, List.map_cons, List.map_nil, List.cons_append, List.nil_append, List.append_nil, List.length_cons, List.length_nil, List.replicate, List.getElem?_cons_zero, List.getElem?_cons_succ, List.set_cons_zero, List.set_cons_succ, List.getD_cons_zero, List.getD_cons_succ, Nat.reduceAdd, Nat.reduceSub, Nat.zero_add, true_and, and_true, Bool.not_true, Bool.not_false, if_true, if_false, Bool.false_eq_true, reduceIte, decide_eq_true_eq, Bool.not_eq_true', decide_eq_false_iff_not, eqV_int, eqV_str, eqV_bl, decide_true, reduceCtorEq, not_true_eq_false, not_false_eq_true, Bool.not_eq_true, List.not_mem_nil, false_implies, implies_true, Int.reduceNeg, Int.reduceToNat, Int.reducePow, Int.reduceMul, Int.reduceAdd, draw_i, ix_t0, ix_t1, ix_t2, ix_t3, ix_m3, ix_m4, sn_ball_box, sn_cell_box, sn_cell_ball, sn_ball_cell, sn_box_ball, sn_box_cell, decide_false]; exact fin _)
      · exact right_o rfl (fun _ h => nomatch h) rfl (Nat.lt_of_lt_of_le (by omega : (p : Int).natAbs < 2 ^ 30) (by decide)) (by show 210 ≤ 100000; decide) (by simp (disch := first | assumption | decide) only [wSeq, wNext, wAsg, wgName, wIfS, wB, wOp, wVar, wC, wCall, wCallK, wCons, wNil, wRet, wRetN, wDrop, wTup, wLst, wIf, wAnd, wOr, wNot, wAndV, wOrV, wNotV, wNeg, wChain, fI, fI0, addD, fLt, fLe, fGt, fGe, fIsB, wCB, fAbs, f2I, fInt, fIsq, wPar, wPar3, permD, startE, List.map_cons, List.map_nil, List.cons_append, List.nil_append, List.append_nil, List.length_cons, List.length_nil, List.replicate, List.getElem?_cons_zero, List.getElem?_cons_succ, List.set_cons_zero, List.set_cons_succ, List.getD_cons_zero, List.getD_cons_succ, Nat.reduceAdd, Nat.reduceSub, Nat.zero_add, true_and, and_true, Bool.not_true, Bool.not_false, if_true, if_false, Bool.false_eq_true, reduceIte, decide_eq_true_eq, Bool.not_eq_true', decide_eq_false_iff_not, eqV_int, eqV_str, eqV_bl, decide_true, reduceCtorEq, not_true_eq_false, not_false_eq_true, Bool.not_eq_true, List.not_mem_nil, false_implies, implies_true, Int.reduceNeg, Int.reduceToNat, Int.reducePow, Int.reduceMul, Int.reduceAdd, draw_i, ix_t0, ix_t1, ix_t2, ix_t3, ix_m3, ix_m4, sn_ball_box, sn_cell_box, sn_cell_ball, sn_ball_cell, sn_box_ball, sn_box_cell, decide_false]; exact fin _)
      · exact right_o rfl (fun _ h => nomatch h) rfl (by show PySem.PyData.strOk _ = true; decide +kernel) (by show 10 * _ + 4 ≤ 100000; decide +kernel) (by simp (disch := first | assumption | decide) only [wSeq, wNext, wAsg, wgName, wIfS, wB, wOp, wVar, wC, wCall, wCallK, wCons, wNil, wRet, wRetN, wDrop, wTup, wLst, wIf, wAnd, wOr, wNot, wAndV, wOrV, wNotV, wNeg, wChain, fI, fI0, addD, fLt, fLe, fGt, fGe, fIsB, wCB, fAbs, f2I, fInt, fIsq, wPar, wPar3, permD, startE, List.map_cons, List.map_nil, List.cons_append, List.nil_append, List.append_nil, List.length_cons, List.length_nil, List.replicate, List.getElem?_cons_zero, List.getElem?_cons_succ, List.set_cons_zero, List.set_cons_succ, List.getD_cons_zero, List.getD_cons_succ, Nat.reduceAdd, Nat.reduceSub, Nat.zero_add, true_and, and_true, Bool.not_true, Bool.not_false, if_true, if_false, Bool.false_eq_true, reduceIte, decide_eq_true_eq, Bool.not_eq_true', decide_eq_false_iff_not, eqV_int, eqV_str, eqV_bl, decide_true, reduceCtorEq, not_true_eq_false, not_false_eq_true, Bool.not_eq_true, List.not_mem_nil, false_implies, implies_true, Int.reduceNeg, Int.reduceToNat, Int.reducePow, Int.reduceMul, Int.reduceAdd, draw_i, ix_t0, ix_t1, ix_t2, ix_t3, ix_m3, ix_m4, sn_ball_box, sn_cell_box, sn_cell_ball, sn_ball_cell, sn_box_ball, sn_box_cell, decide_false]; exact fin _)
      · exact right_o rfl (fun _ h => nomatch h) rfl ⟨⟨rfl, fun k hk => nomatch hk⟩, fun d hd => nomatch hd⟩ (by show (D.py (.dct [] [])).shown.length ≤ 100000; decide +kernel) (by simp (disch := first | assumption | decide) only [wSeq, wNext, wAsg, wgName, wIfS, wB, wOp, wVar, wC, wCall, wCallK, wCons, wNil, wRet, wRetN, wDrop, wTup, wLst, wIf, wAnd, wOr, wNot, wAndV, wOrV, wNotV, wNeg, wChain, fI, fI0, addD, fLt, fLe, fGt, fGe, fIsB, wCB, fAbs, f2I, fInt, fIsq, wPar, wPar3, permD, startE, List.map_cons, List.map_nil, List.cons_append, List.nil_append, List.append_nil, List.length_cons, List.length_nil, List.replicate, List.getElem?_cons_zero, List.getElem?_cons_succ, List.set_cons_zero, List.set_cons_succ, List.getD_cons_zero, List.getD_cons_succ, Nat.reduceAdd, Nat.reduceSub, Nat.zero_add, true_and, and_true, Bool.not_true, Bool.not_false, if_true, if_false, Bool.false_eq_true, reduceIte, decide_eq_true_eq, Bool.not_eq_true', decide_eq_false_iff_not, eqV_int, eqV_str, eqV_bl, decide_true, reduceCtorEq, not_true_eq_false, not_false_eq_true, Bool.not_eq_true, List.not_mem_nil, false_implies, implies_true, Int.reduceNeg, Int.reduceToNat, Int.reducePow, Int.reduceMul, Int.reduceAdd, draw_i, ix_t0, ix_t1, ix_t2, ix_t3, ix_m3, ix_m4, sn_ball_box, sn_cell_box, sn_cell_ball, sn_ball_cell, sn_box_ball, sn_box_cell, decide_false]; exact fin _)
      · refine right_o rfl (fun _ h => nomatch h) rfl (ints_text v) ?_ (by simp (disch := first | assumption | decide) only [wSeq, wNext, wAsg, wgName, wIfS, wB, wOp, wVar, wC, wCall, wCallK, wCons, wNil, wRet, wRetN, wDrop, wTup, wLst, wIf, wAnd, wOr, wNot, wAndV, wOrV, wNotV, wNeg, wChain, fI, fI0, addD, fLt, fLe, fGt, fGe, fIsB, wCB, fAbs, f2I, fInt, fIsq, wPar, wPar3, permD, startE, List.map_cons, List.map_nil, List.cons_append, List.nil_append, List.append_nil, List.length_cons, List.length_nil, List.replicate, List.getElem?_cons_zero, List.getElem?_cons_succ, List.set_cons_zero, List.set_cons_succ, List.getD_cons_zero, List.getD_cons_succ, Nat.reduceAdd, Nat.reduceSub, Nat.zero_add, true_and, and_true, Bool.not_true, Bool.not_false, if_true, if_false, Bool.false_eq_true, reduceIte, decide_eq_true_eq, Bool.not_eq_true', decide_eq_false_iff_not, eqV_int, eqV_str, eqV_bl, decide_true, reduceCtorEq, not_true_eq_false, not_false_eq_true, Bool.not_eq_true, List.not_mem_nil, false_implies, implies_true, Int.reduceNeg, Int.reduceToNat, Int.reducePow, Int.reduceMul, Int.reduceAdd, draw_i, ix_t0, ix_t1, ix_t2, ix_t3, ix_m3, ix_m4, sn_ball_box, sn_cell_box, sn_cell_ball, sn_ball_cell, sn_box_ball, sn_box_cell, decide_false]; exact fin _)
        have hc := shw_cost _ (.tup (v.map .int)) sv
        show 10 * (shown (.tup (v.map .int))).length + 4 ≤ 100000
        have h2 : (shown (.tup (v.map .int))).length ≤ cost (.tup (v.map .int)) := hc
        omega
      · refine right_i (.int (-1)) (due_no (by omega)) ⟨rfl, fun es' e => by
          cases e
          exact ⟨by omega, fun d hd => by rw [me d hd]; rfl⟩⟩ ⟨6, by decide, fun e he => by rw [me e he]; exact sv, ?_⟩ (by simp (disch := first | assumption | decide) only [wSeq, wNext, wAsg, wgName, wIfS, wB, wOp, wVar, wC, wCall, wCallK, wCons, wNil, wRet, wRetN, wDrop, wTup, wLst, wIf, wAnd, wOr, wNot, wAndV, wOrV, wNotV, wNeg, wChain, fI, fI0, addD, fLt, fLe, fGt, fGe, fIsB, wCB, fAbs, f2I, fInt, fIsq, wPar, wPar3, permD, startE, List.map_cons, List.map_nil, List.cons_append, List.nil_append, List.append_nil, List.length_cons, List.length_nil, List.replicate, List.getElem?_cons_zero, List.getElem?_cons_succ, List.set_cons_zero, List.set_cons_succ, List.getD_cons_zero, List.getD_cons_succ, Nat.reduceAdd, Nat.reduceSub, Nat.zero_add, true_and, and_true, Bool.not_true, Bool.not_false, if_true, if_false, Bool.false_eq_true, reduceIte, decide_eq_true_eq, Bool.not_eq_true', decide_eq_false_iff_not, eqV_int, eqV_str, eqV_bl, decide_true, reduceCtorEq, not_true_eq_false, not_false_eq_true, Bool.not_eq_true, List.not_mem_nil, false_implies, implies_true, Int.reduceNeg, Int.reduceToNat, Int.reducePow, Int.reduceMul, Int.reduceAdd, draw_i, ix_t0, ix_t1, ix_t2, ix_t3, ix_m3, ix_m4, sn_ball_box, sn_cell_box, sn_cell_ball, sn_ball_cell, sn_box_ball, sn_box_cell, decide_false]; exact fin _)
        have h := costL_le (B := 1700) (ys := es) fun y hy => by rw [me y hy]; exact cv
        show costL es + 4 ≤ _
        have h3 : (1700 + 2) * es.length ≤ 1702 * 9 := Nat.mul_le_mul_left _ (by omega)
        omega
    rintro ρ' M4 ⟨u4, v8, rfl⟩
    exact ⟨True.intro, hK2 _ _ ⟨u4, _, _, _, _, _, _, _, _, _, rfl⟩⟩
  · rintro ρ' M2 ⟨u2, v2, v3, v4, v5, v6, v7, v8, v9, v10, rfl⟩
    refine ⟨True.intro, ?_⟩
    show K _ _
    subst hK
    have ha2 := u2 _ _ ha
    refine seq_gen fun K hK => ?_
    simp (disch := first | assumption | decide) only [wSeq, wNext, wAsg, wgName, wIfS, wB, wOp, wVar, wC, wCall, wCallK, wCons, wNil, wRet, wRetN, wDrop, wTup, wLst, wIf, wAnd, wOr, wNot, wAndV, wOrV, wNotV, wNeg, wChain, fI, fI0, addD, fLt, fLe, fGt, fGe, fIsB, wCB, fAbs, f2I, fInt, fIsq, wPar, wPar3, permD, startE, List.map_cons, List.map_nil, List.cons_append, List.nil_append, List.append_nil, List.length_cons, List.length_nil, List.replicate, List.getElem?_cons_zero, List.getElem?_cons_succ, List.set_cons_zero, List.set_cons_succ, List.getD_cons_zero, List.getD_cons_succ, Nat.reduceAdd, Nat.reduceSub, Nat.zero_add, true_and, and_true, Bool.not_true, Bool.not_false, if_true, if_false, Bool.false_eq_true, reduceIte, decide_eq_true_eq, Bool.not_eq_true', decide_eq_false_iff_not, eqV_int, eqV_str, eqV_bl, decide_true, reduceCtorEq, not_true_eq_false, not_false_eq_true, Bool.not_eq_true, List.not_mem_nil, false_implies, implies_true, Int.reduceNeg, Int.reduceToNat, Int.reducePow, Int.reduceMul, Int.reduceAdd, draw_i, ix_t0, ix_t1, ix_t2, ix_t3, ix_m3, ix_m4, sn_ball_box, sn_cell_box, sn_cell_ball, sn_ball_cell, sn_box_ball, sn_box_cell, decide_false]
    simp only [eq_true cp, true_and]
    refine ⟨by decide, pick_q ha2 rfl (by decide) (by decide) fun x hx => ?_⟩
    obtain ⟨g, rfl, g0, g1⟩ : ∃ g : Int, x = .int g ∧ -10000 ≤ g ∧ g ≤ 10000 := by
      simp only [List.mem_cons, List.not_mem_nil, or_false] at hx
      rcases hx with rfl | rfl | rfl
      · exact ⟨_, rfl, by decide, by decide⟩
      · exact ⟨_, rfl, by decide, by decide⟩
      · exact ⟨_, rfl, by decide, by decide⟩
    refine ⟨by decide, ?_⟩
    subst hK
    refine seq_gen fun K hK => ?_
    simp (disch := first | assumption | decide) only [wSeq, wNext, wAsg, wgName, wIfS, wB, wOp, wVar, wC, wCall, wCallK, wCons, wNil, wRet, wRetN, wDrop, wTup, wLst, wIf, wAnd, wOr, wNot, wAndV, wOrV, wNotV, wNeg, wChain, fI, fI0, addD, fLt, fLe, fGt, fGe, fIsB, wCB, fAbs, f2I, fInt, fIsq, wPar, wPar3, permD, startE, List.map_cons, List.map_nil, List.cons_append, List.nil_append, List.append_nil, List.length_cons, List.length_nil, List.replicate, List.getElem?_cons_zero, List.getElem?_cons_succ, List.set_cons_zero, List.set_cons_succ, List.getD_cons_zero, List.getD_cons_succ, Nat.reduceAdd, Nat.reduceSub, Nat.zero_add, true_and, and_true, Bool.not_true, Bool.not_false, if_true, if_false, Bool.false_eq_true, reduceIte, decide_eq_true_eq, Bool.not_eq_true', decide_eq_false_iff_not, eqV_int, eqV_str, eqV_bl, decide_true, reduceCtorEq, not_true_eq_false, not_false_eq_true, Bool.not_eq_true, List.not_mem_nil, false_implies, implies_true, Int.reduceNeg, Int.reduceToNat, Int.reducePow, Int.reduceMul, Int.reduceAdd, draw_i, ix_t0, ix_t1, ix_t2, ix_t3, ix_m3, ix_m4, sn_ball_box, sn_cell_box, sn_cell_ball, sn_ball_cell, sn_box_ball, sn_box_cell, decide_false]
    have op : ∀ z : Int, -10000 ≤ z → z ≤ 10000 → oddP (.int z) := fun z z0 z1 => .inl ⟨z, rfl, z0, z1⟩
    have o2 : ∀ e ∈ [D.int g, D.int (0 - 10000)], oddP e := fun e he => by
      simp only [List.mem_cons, List.not_mem_nil, or_false] at he
      rcases he with rfl | rfl
      · exact op _ g0 g1
      · exact op _ (by decide) (by decide)
    refine tup_right _ (due_in (v := [g, 0 - 10000]) rfl) (by simp) o2 ?_
    simp (disch := first | assumption | decide) only [wSeq, wNext, wAsg, wgName, wIfS, wB, wOp, wVar, wC, wCall, wCallK, wCons, wNil, wRet, wRetN, wDrop, wTup, wLst, wIf, wAnd, wOr, wNot, wAndV, wOrV, wNotV, wNeg, wChain, fI, fI0, addD, fLt, fLe, fGt, fGe, fIsB, wCB, fAbs, f2I, fInt, fIsq, wPar, wPar3, permD, startE, List.map_cons, List.map_nil, List.cons_append, List.nil_append, List.append_nil, List.length_cons, List.length_nil, List.replicate, List.getElem?_cons_zero, List.getElem?_cons_succ, List.set_cons_zero, List.set_cons_succ, List.getD_cons_zero, List.getD_cons_succ, Nat.reduceAdd, Nat.reduceSub, Nat.zero_add, true_and, and_true, Bool.not_true, Bool.not_false, if_true, if_false, Bool.false_eq_true, reduceIte, decide_eq_true_eq, Bool.not_eq_true', decide_eq_false_iff_not, eqV_int, eqV_str, eqV_bl, decide_true, reduceCtorEq, not_true_eq_false, not_false_eq_true, Bool.not_eq_true, List.not_mem_nil, false_implies, implies_true, Int.reduceNeg, Int.reduceToNat, Int.reducePow, Int.reduceMul, Int.reduceAdd, draw_i, ix_t0, ix_t1, ix_t2, ix_t3, ix_m3, ix_m4, sn_ball_box, sn_cell_box, sn_cell_ball, sn_ball_cell, sn_box_ball, sn_box_cell, decide_false]
    refine ⟨by decide, by decide, ?_⟩
    refine tup_right (.int 2) rfl (by simp) (fun e he => ?_) ?_
    · simp only [List.mem_cons, List.not_mem_nil, or_false] at he
      rcases he with rfl | rfl | rfl
      · exact op _ g0 g1
      · exact op _ (by decide) (by decide)
      · exact .inr (by simp [odd9])
    simp (disch := first | assumption | decide) only [wSeq, wNext, wAsg, wgName, wIfS, wB, wOp, wVar, wC, wCall, wCallK, wCons, wNil, wRet, wRetN, wDrop, wTup, wLst, wIf, wAnd, wOr, wNot, wAndV, wOrV, wNotV, wNeg, wChain, fI, fI0, addD, fLt, fLe, fGt, fGe, fIsB, wCB, fAbs, f2I, fInt, fIsq, wPar, wPar3, permD, startE, List.map_cons, List.map_nil, List.cons_append, List.nil_append, List.append_nil, List.length_cons, List.length_nil, List.replicate, List.getElem?_cons_zero, List.getElem?_cons_succ, List.set_cons_zero, List.set_cons_succ, List.getD_cons_zero, List.getD_cons_succ, Nat.reduceAdd, Nat.reduceSub, Nat.zero_add, true_and, and_true, Bool.not_true, Bool.not_false, if_true, if_false, Bool.false_eq_true, reduceIte, decide_eq_true_eq, Bool.not_eq_true', decide_eq_false_iff_not, eqV_int, eqV_str, eqV_bl, decide_true, reduceCtorEq, not_true_eq_false, not_false_eq_true, Bool.not_eq_true, List.not_mem_nil, false_implies, implies_true, Int.reduceNeg, Int.reduceToNat, Int.reducePow, Int.reduceMul, Int.reduceAdd, draw_i, ix_t0, ix_t1, ix_t2, ix_t3, ix_m3, ix_m4, sn_ball_box, sn_cell_box, sn_cell_ball, sn_ball_cell, sn_box_ball, sn_box_cell, decide_false]
    subst hK
    refine seq_gen fun K hK => ?_
    simp (disch := first | assumption | decide) only [wSeq, wNext, wAsg, wgName, wIfS, wB, wOp, wVar, wC, wCall, wCallK, wCons, wNil, wRet, wRetN, wDrop, wTup, wLst, wIf, wAnd, wOr, wNot, wAndV, wOrV, wNotV, wNeg, wChain, fI, fI0, addD, fLt, fLe, fGt, fGe, fIsB, wCB, fAbs, f2I, fInt, fIsq, wPar, wPar3, permD, startE, List.map_cons, List.map_nil, List.cons_append, List.nil_append, List.append_nil, List.length_cons, List.length_nil, List.replicate, List.getElem?_cons_zero, List.getElem?_cons_succ, List.set_cons_zero, List.set_cons_succ, List.getD_cons_zero, List.getD_cons_succ, Nat.reduceAdd, Nat.reduceSub, Nat.zero_add, true_and, and_true, Bool.not_true, Bool.not_false, if_true, if_false, Bool.false_eq_true, reduceIte, decide_eq_true_eq, Bool.not_eq_true', decide_eq_false_iff_not, eqV_int, eqV_str, eqV_bl, decide_true, reduceCtorEq, not_true_eq_false, not_false_eq_true, Bool.not_eq_true, List.not_mem_nil, false_implies, implies_true, Int.reduceNeg, Int.reduceToNat, Int.reducePow, Int.reduceMul, Int.reduceAdd, draw_i, ix_t0, ix_t1, ix_t2, ix_t3, ix_m3, ix_m4, sn_ball_box, sn_cell_box, sn_cell_ball, sn_ball_cell, sn_box_ball, sn_box_cell, decide_false]
    have kf : fit 2 c_KINDS := by
      unfold c_KINDS
      simp only [fit, List.mem_cons, List.not_mem_nil, or_false]
      intro d hd
      rcases hd with rfl | rfl | rfl | rfl <;> (simp only [fit]; decide +kernel)
    refine ⟨by decide, ?_⟩
    rw [show c_KINDS = D.tup [.str "square", .str "sum", .str "most", .str "unlike"] from rfl] at kf ⊢
    refine (Iff.rfl : eqV true (.tup _) (.tup _) M2 _ ↔ eqD2 true (.tup _) (.tup _) M2 _).mpr ?_
    refine ⟨⟨2, by decide, kf, kf⟩, ?_⟩
    have ek : eqD (D.tup [.str "square", .str "sum", .str "most", .str "unlike"]) (D.tup [.str "square", .str "sum", .str "most", .str "unlike"]) = true := by decide +kernel
    have ek2 : eqD (res M2 (D.tup [.str "square", .str "sum", .str "most", .str "unlike"])) (res M2 (D.tup [.str "square", .str "sum", .str "most", .str "unlike"])) = true := ek
    rw [ek2]
    simp (disch := first | assumption | decide) only [wSeq, wNext, wAsg, wgName, wIfS, wB, wOp, wVar, wC, wCall, wCallK, wCons, wNil, wRet, wRetN, wDrop, wTup, wLst, wIf, wAnd, wOr, wNot, wAndV, wOrV, wNotV, wNeg, wChain, fI, fI0, addD, fLt, fLe, fGt, fGe, fIsB, wCB, fAbs, f2I, fInt, fIsq, wPar, wPar3, permD, startE, List.map_cons, List.map_nil, List.cons_append, List.nil_append, List.append_nil, List.length_cons, List.length_nil, List.replicate, List.getElem?_cons_zero, List.getElem?_cons_succ, List.set_cons_zero, List.set_cons_succ, List.getD_cons_zero, List.getD_cons_succ, Nat.reduceAdd, Nat.reduceSub, Nat.zero_add, true_and, and_true, Bool.not_true, Bool.not_false, if_true, if_false, Bool.false_eq_true, reduceIte, decide_eq_true_eq, Bool.not_eq_true', decide_eq_false_iff_not, eqV_int, eqV_str, eqV_bl, decide_true, reduceCtorEq, not_true_eq_false, not_false_eq_true, Bool.not_eq_true, List.not_mem_nil, false_implies, implies_true, Int.reduceNeg, Int.reduceToNat, Int.reducePow, Int.reduceMul, Int.reduceAdd, draw_i, ix_t0, ix_t1, ix_t2, ix_t3, ix_m3, ix_m4, sn_ball_box, sn_cell_box, sn_cell_ball, sn_ball_cell, sn_box_ball, sn_box_cell, decide_false]
    refine isi_tup rfl ?_
    simp (disch := first | assumption | decide) only [wSeq, wNext, wAsg, wgName, wIfS, wB, wOp, wVar, wC, wCall, wCallK, wCons, wNil, wRet, wRetN, wDrop, wTup, wLst, wIf, wAnd, wOr, wNot, wAndV, wOrV, wNotV, wNeg, wChain, fI, fI0, addD, fLt, fLe, fGt, fGe, fIsB, wCB, fAbs, f2I, fInt, fIsq, wPar, wPar3, permD, startE, List.map_cons, List.map_nil, List.cons_append, List.nil_append, List.append_nil, List.length_cons, List.length_nil, List.replicate, List.getElem?_cons_zero, List.getElem?_cons_succ, List.set_cons_zero, List.set_cons_succ, List.getD_cons_zero, List.getD_cons_succ, Nat.reduceAdd, Nat.reduceSub, Nat.zero_add, true_and, and_true, Bool.not_true, Bool.not_false, if_true, if_false, Bool.false_eq_true, reduceIte, decide_eq_true_eq, Bool.not_eq_true', decide_eq_false_iff_not, eqV_int, eqV_str, eqV_bl, decide_true, reduceCtorEq, not_true_eq_false, not_false_eq_true, Bool.not_eq_true, List.not_mem_nil, false_implies, implies_true, Int.reduceNeg, Int.reduceToNat, Int.reducePow, Int.reduceMul, Int.reduceAdd, draw_i, ix_t0, ix_t1, ix_t2, ix_t3, ix_m3, ix_m4, sn_ball_box, sn_cell_box, sn_cell_ball, sn_ball_cell, sn_box_ball, sn_box_cell, decide_false]
    subst hK
    refine seq_gen fun K hK => ?_
    refine for_gen fun B hB => ?_
    simp (disch := first | assumption | decide) only [wSeq, wNext, wAsg, wgName, wIfS, wB, wOp, wVar, wC, wCall, wCallK, wCons, wNil, wRet, wRetN, wDrop, wTup, wLst, wIf, wAnd, wOr, wNot, wAndV, wOrV, wNotV, wNeg, wChain, fI, fI0, addD, fLt, fLe, fGt, fGe, fIsB, wCB, fAbs, f2I, fInt, fIsq, wPar, wPar3, permD, startE, List.map_cons, List.map_nil, List.cons_append, List.nil_append, List.append_nil, List.length_cons, List.length_nil, List.replicate, List.getElem?_cons_zero, List.getElem?_cons_succ, List.set_cons_zero, List.set_cons_succ, List.getD_cons_zero, List.getD_cons_succ, Nat.reduceAdd, Nat.reduceSub, Nat.zero_add, true_and, and_true, Bool.not_true, Bool.not_false, if_true, if_false, Bool.false_eq_true, reduceIte, decide_eq_true_eq, Bool.not_eq_true', decide_eq_false_iff_not, eqV_int, eqV_str, eqV_bl, decide_true, reduceCtorEq, not_true_eq_false, not_false_eq_true, Bool.not_eq_true, List.not_mem_nil, false_implies, implies_true, Int.reduceNeg, Int.reduceToNat, Int.reducePow, Int.reduceMul, Int.reduceAdd, draw_i, ix_t0, ix_t1, ix_t2, ix_t3, ix_m3, ix_m4, sn_ball_box, sn_cell_box, sn_cell_ball, sn_ball_cell, sn_box_ball, sn_box_cell, decide_false, wFor, wiSeq]
    refine loop_ix (fun i' ρ' M' => Up M2 M' ∧ ∃ v4 v9, ρ' = [some (.lst (ns.map .int)), some (.tok a), v2, some (.tup [.int g, .int (0 - 10000)]), v4, v5, v6, v7, v8, v9, v10]) ?_ ?_ ⟨Up.refl _, _, _, rfl⟩
    · rintro i' d ρ' M4 hi' ⟨u4, v4, v9, rfl⟩
      refine ⟨True.intro, fun K4 hK4 => ?_⟩
      have md := List.mem_of_getElem? hi'
      simp only [List.mem_cons, List.not_mem_nil, or_false] at md
      have fin : ∀ b : D, K4 [some (.lst (ns.map .int)), some (.tok a), v2, some (.tup [.int g, .int (0 - 10000)]), some d, v5, v6, v7, v8, some b, v10] M4 := fun b => hK4 _ _ ⟨u4, _, _, rfl⟩
      clear hK4 hi'
      subst hB
      refine seq_gen fun K5 hK5 => ?_
      obtain ⟨x, rfl, hx⟩ : ∃ x, d = .str x ∧ x ∈ kinds4 := by
        rcases md with rfl | rfl | rfl | rfl
        · exact ⟨_, rfl, List.mem_cons_self⟩
        · exact ⟨_, rfl, List.mem_cons_of_mem _ List.mem_cons_self⟩
        · exact ⟨_, rfl, List.mem_cons_of_mem _ (List.mem_cons_of_mem _ List.mem_cons_self)⟩
        · exact ⟨_, rfl, List.mem_cons_of_mem _ (List.mem_cons_of_mem _ (List.mem_cons_of_mem _ List.mem_cons_self))⟩
      clear md
      obtain ⟨k1, k2, k3, k4⟩ := kind4 x hx
      have nn := near_no x hx
      have ls : (Str.ofString "s").length = 1 := rfl
      have lb : (Str.ofString " ").length = 1 := rfl
      simp (disch := first | assumption | decide) only [wSeq, wNext, wAsg, wgName, wIfS, wB, wOp, wVar, wC, wCall, wCallK, wCons, wNil, wRet, wRetN, wDrop, wTup, wLst, wIf, wAnd, wOr, wNot, wAndV, wOrV, wNotV, wNeg, wChain, fI, fI0, addD, fLt, fLe, fGt, fGe, fIsB, wCB, fAbs, f2I, fInt, fIsq, wPar, wPar3, permD, startE, List.map_cons, List.map_nil, List.cons_append, List.nil_append, List.append_nil, List.length_cons, List.length_nil, List.replicate, List.getElem?_cons_zero, List.getElem?_cons_succ, List.set_cons_zero, List.set_cons_succ, List.getD_cons_zero, List.getD_cons_succ, Nat.reduceAdd, Nat.reduceSub, Nat.zero_add, true_and, and_true, Bool.not_true, Bool.not_false, if_true, if_false, Bool.false_eq_true, reduceIte, decide_eq_true_eq, Bool.not_eq_true', decide_eq_false_iff_not, eqV_int, eqV_str, eqV_bl, decide_true, reduceCtorEq, not_true_eq_false, not_false_eq_true, Bool.not_eq_true, List.not_mem_nil, false_implies, implies_true, Int.reduceNeg, Int.reduceToNat, Int.reducePow, Int.reduceMul, Int.reduceAdd, draw_i, ix_t0, ix_t1, ix_t2, ix_t3, ix_m3, ix_m4, sn_ball_box, sn_cell_box, sn_cell_ball, sn_ball_cell, sn_box_ball, sn_box_cell, decide_false, wSl, wNoP, wPart, wDct0, wUpper, wS0, slD]
      refine ⟨by rw [ls]; exact k3, by omega, k4, by decide, by decide, by rw [lb]; exact k3, by decide, ?_⟩
      refine pick_q (u4 _ _ ha2) rfl (by simp) (by simp) fun y hy => ?_
      have h2 : tyOk M4 y ∧ (∀ z, y = .str z → PySem.PyData.strOk z = true) ∧ kindB y = false := by
        have st : ∀ z : Str, z ∈ [x ++ "s", cutS x none (some (-1)), Txt.upper x, x ++ " ", ""] → tyOk M4 (.str z) ∧ (∀ z', D.str z = .str z' → PySem.PyData.strOk z' = true) ∧ kindB (.str z) = false := fun z hz => ⟨rfl, fun z' e => by cases e; exact (nn z hz).2, (nn z hz).1⟩
        simp only [List.mem_cons, List.not_mem_nil, or_false] at hy
        rcases hy with rfl | rfl | rfl | rfl | rfl | rfl | rfl | rfl | rfl | rfl | rfl
        · exact st _ (by simp only [List.mem_cons, true_or])
        · exact st _ (by simp only [List.mem_cons, true_or, or_true])
        · exact st _ (by simp only [List.mem_cons, true_or, or_true])
        · exact ⟨rfl, (fun _ h => nomatch h), rfl⟩
        · exact ⟨rfl, (fun _ h => nomatch h), rfl⟩
        · exact st _ (by simp only [List.mem_cons, true_or, or_true])
        · exact ⟨rfl, (fun _ h => nomatch h), rfl⟩
        · exact ⟨rfl, (fun _ h => nomatch h), rfl⟩
        · exact ⟨rfl, (fun _ h => nomatch h), rfl⟩
        · exact ⟨rfl, (fun _ h => nomatch h), rfl⟩
        · exact st _ (by simp only [List.mem_cons, true_or, or_true])
      obtain ⟨y1, y2, y3⟩ := h2
      clear hy
      subst hK5
      simp (disch := first | assumption | decide) only [wSeq, wNext, wAsg, wgName, wIfS, wB, wOp, wVar, wC, wCall, wCallK, wCons, wNil, wRet, wRetN, wDrop, wTup, wLst, wIf, wAnd, wOr, wNot, wAndV, wOrV, wNotV, wNeg, wChain, fI, fI0, addD, fLt, fLe, fGt, fGe, fIsB, wCB, fAbs, f2I, fInt, fIsq, wPar, wPar3, permD, startE, List.map_cons, List.map_nil, List.cons_append, List.nil_append, List.append_nil, List.length_cons, List.length_nil, List.replicate, List.getElem?_cons_zero, List.getElem?_cons_succ, List.set_cons_zero, List.set_cons_succ, List.getD_cons_zero, List.getD_cons_succ, Nat.reduceAdd, Nat.reduceSub, Nat.zero_add, true_and, and_true, Bool.not_true, Bool.not_false, if_true, if_false, Bool.false_eq_true, reduceIte, decide_eq_true_eq, Bool.not_eq_true', decide_eq_false_iff_not, eqV_int, eqV_str, eqV_bl, decide_true, reduceCtorEq, not_true_eq_false, not_false_eq_true, Bool.not_eq_true, List.not_mem_nil, false_implies, implies_true, Int.reduceNeg, Int.reduceToNat, Int.reducePow, Int.reduceMul, Int.reduceAdd, draw_i, ix_t0, ix_t1, ix_t2, ix_t3, ix_m3, ix_m4, sn_ball_box, sn_cell_box, sn_cell_ball, sn_ball_cell, sn_box_ball, sn_box_cell, decide_false, wCallK]
      refine kind_i rfl (fun z e => by cases e; exact k2) ?_
      rw [k1]
      simp (disch := first | assumption | decide) only [wSeq, wNext, wAsg, wgName, wIfS, wB, wOp, wVar, wC, wCall, wCallK, wCons, wNil, wRet, wRetN, wDrop, wTup, wLst, wIf, wAnd, wOr, wNot, wAndV, wOrV, wNotV, wNeg, wChain, fI, fI0, addD, fLt, fLe, fGt, fGe, fIsB, wCB, fAbs, f2I, fInt, fIsq, wPar, wPar3, permD, startE, List.map_cons, List.map_nil, List.cons_append, List.nil_append, List.append_nil, List.length_cons, List.length_nil, List.replicate, List.getElem?_cons_zero, List.getElem?_cons_succ, List.set_cons_zero, List.set_cons_succ, List.getD_cons_zero, List.getD_cons_succ, Nat.reduceAdd, Nat.reduceSub, Nat.zero_add, true_and, and_true, Bool.not_true, Bool.not_false, if_true, if_false, Bool.false_eq_true, reduceIte, decide_eq_true_eq, Bool.not_eq_true', decide_eq_false_iff_not, eqV_int, eqV_str, eqV_bl, decide_true, reduceCtorEq, not_true_eq_false, not_false_eq_true, Bool.not_eq_true, List.not_mem_nil, false_implies, implies_true, Int.reduceNeg, Int.reduceToNat, Int.reducePow, Int.reduceMul, Int.reduceAdd, draw_i, ix_t0, ix_t1, ix_t2, ix_t3, ix_m3, ix_m4, sn_ball_box, sn_cell_box, sn_cell_ball, sn_ball_cell, sn_box_ball, sn_box_cell, decide_false, fNotB]
      refine kind_i y1 y2 ?_
      rw [y3]
      simp (disch := first | assumption | decide) only [wSeq, wNext, wAsg, wgName, wIfS, wB, wOp, wVar, wC, wCall, wCallK, wCons, wNil, wRet, wRetN, wDrop, wTup, wLst, wIf, wAnd, wOr, wNot, wAndV, wOrV, wNotV, wNeg, wChain, fI, fI0, addD, fLt, fLe, fGt, fGe, fIsB, wCB, fAbs, f2I, fInt, fIsq, wPar, wPar3, permD, startE, List.map_cons, List.map_nil, List.cons_append, List.nil_append, List.append_nil, List.length_cons, List.length_nil, List.replicate, List.getElem?_cons_zero, List.getElem?_cons_succ, List.set_cons_zero, List.set_cons_succ, List.getD_cons_zero, List.getD_cons_succ, Nat.reduceAdd, Nat.reduceSub, Nat.zero_add, true_and, and_true, Bool.not_true, Bool.not_false, if_true, if_false, Bool.false_eq_true, reduceIte, decide_eq_true_eq, Bool.not_eq_true', decide_eq_false_iff_not, eqV_int, eqV_str, eqV_bl, decide_true, reduceCtorEq, not_true_eq_false, not_false_eq_true, Bool.not_eq_true, List.not_mem_nil, false_implies, implies_true, Int.reduceNeg, Int.reduceToNat, Int.reducePow, Int.reduceMul, Int.reduceAdd, draw_i, ix_t0, ix_t1, ix_t2, ix_t3, ix_m3, ix_m4, sn_ball_box, sn_cell_box, sn_cell_ball, sn_ball_cell, sn_box_ball, sn_box_cell, decide_false, fNotB]
      exact fin _
    rintro ρ' M4 ⟨u4, v4, v9, rfl⟩
    refine ⟨True.intro, ?_⟩
    show K _ _
    subst hK
    have ha4 := u4 _ _ ha2
    simp (disch := first | assumption | decide) only [wSeq, wNext, wAsg, wgName, wIfS, wB, wOp, wVar, wC, wCall, wCallK, wCons, wNil, wRet, wRetN, wDrop, wTup, wLst, wIf, wAnd, wOr, wNot, wAndV, wOrV, wNotV, wNeg, wChain, fI, fI0, addD, fLt, fLe, fGt, fGe, fIsB, wCB, fAbs, f2I, fInt, fIsq, wPar, wPar3, permD, startE, List.map_cons, List.map_nil, List.cons_append, List.nil_append, List.append_nil, List.length_cons, List.length_nil, List.replicate, List.getElem?_cons_zero, List.getElem?_cons_succ, List.set_cons_zero, List.set_cons_succ, List.getD_cons_zero, List.getD_cons_succ, Nat.reduceAdd, Nat.reduceSub, Nat.zero_add, true_and, and_true, Bool.not_true, Bool.not_false, if_true, if_false, Bool.false_eq_true, reduceIte, decide_eq_true_eq, Bool.not_eq_true', decide_eq_false_iff_not, eqV_int, eqV_str, eqV_bl, decide_true, reduceCtorEq, not_true_eq_false, not_false_eq_true, Bool.not_eq_true, List.not_mem_nil, false_implies, implies_true, Int.reduceNeg, Int.reduceToNat, Int.reducePow, Int.reduceMul, Int.reduceAdd, draw_i, ix_t0, ix_t1, ix_t2, ix_t3, ix_m3, ix_m4, sn_ball_box, sn_cell_box, sn_cell_ball, sn_ball_cell, sn_box_ball, sn_box_cell, decide_false]
    refine ⟨_, _, rfl, ha4, fun M5 u5 => ?_⟩
    simp (disch := first | assumption | decide) only [wSeq, wNext, wAsg, wgName, wIfS, wB, wOp, wVar, wC, wCall, wCallK, wCons, wNil, wRet, wRetN, wDrop, wTup, wLst, wIf, wAnd, wOr, wNot, wAndV, wOrV, wNotV, wNeg, wChain, fI, fI0, addD, fLt, fLe, fGt, fGe, fIsB, wCB, fAbs, f2I, fInt, fIsq, wPar, wPar3, permD, startE, List.map_cons, List.map_nil, List.cons_append, List.nil_append, List.append_nil, List.length_cons, List.length_nil, List.replicate, List.getElem?_cons_zero, List.getElem?_cons_succ, List.set_cons_zero, List.set_cons_succ, List.getD_cons_zero, List.getD_cons_succ, Nat.reduceAdd, Nat.reduceSub, Nat.zero_add, true_and, and_true, Bool.not_true, Bool.not_false, if_true, if_false, Bool.false_eq_true, reduceIte, decide_eq_true_eq, Bool.not_eq_true', decide_eq_false_iff_not, eqV_int, eqV_str, eqV_bl, decide_true, reduceCtorEq, not_true_eq_false, not_false_eq_true, Bool.not_eq_true, List.not_mem_nil, false_implies, implies_true, Int.reduceNeg, Int.reduceToNat, Int.reducePow, Int.reduceMul, Int.reduceAdd, draw_i, ix_t0, ix_t1, ix_t2, ix_t3, ix_m3, ix_m4, sn_ball_box, sn_cell_box, sn_cell_ball, sn_ball_cell, sn_box_ball, sn_box_cell, decide_false, wCallK]
    refine ⟨by decide, heard_i ?_ ?_⟩
    · exact ⟨rfl, fun es e => by
        cases e
        exact ⟨by decide, fun d hd => by
          simp only [List.mem_cons, List.not_mem_nil, or_false] at hd
          rcases hd with rfl | rfl | rfl <;> rfl⟩⟩
    have eh : heardD (vdue (D.tup [.int 1, .bl true, .non]) 3) = D.tup [.str "wrong", .int 1] := rfl
    rw [eh]
    have wf : fit 2 (D.tup [.str "wrong", .int 1]) := by
      simp only [fit, List.mem_cons, List.not_mem_nil, or_false]
      intro d hd
      rcases hd with rfl | rfl
      · simp only [fit]
        decide +kernel
      · exact True.intro
    refine ⟨by decide, ?_⟩
    refine (Iff.rfl : eqV false (.tup _) (.tup _) M5 _ ↔ eqD2 false (.tup _) (.tup _) M5 _).mpr ?_
    refine ⟨⟨2, by decide, wf, wf⟩, ?_⟩
    have ek : eqD (res M5 (D.tup [.str "wrong", .int 1])) (res M5 (D.tup [.str "wrong", .int 1])) = true := by
      show eqD (D.tup [.str "wrong", .int 1]) (D.tup [.str "wrong", .int 1]) = true
      decide +kernel
    rw [ek]
    simp (disch := first | assumption | decide) only [wSeq, wNext, wAsg, wgName, wIfS, wB, wOp, wVar, wC, wCall, wCallK, wCons, wNil, wRet, wRetN, wDrop, wTup, wLst, wIf, wAnd, wOr, wNot, wAndV, wOrV, wNotV, wNeg, wChain, fI, fI0, addD, fLt, fLe, fGt, fGe, fIsB, wCB, fAbs, f2I, fInt, fIsq, wPar, wPar3, permD, startE, List.map_cons, List.map_nil, List.cons_append, List.nil_append, List.append_nil, List.length_cons, List.length_nil, List.replicate, List.getElem?_cons_zero, List.getElem?_cons_succ, List.set_cons_zero, List.set_cons_succ, List.getD_cons_zero, List.getD_cons_succ, Nat.reduceAdd, Nat.reduceSub, Nat.zero_add, true_and, and_true, Bool.not_true, Bool.not_false, if_true, if_false, Bool.false_eq_true, reduceIte, decide_eq_true_eq, Bool.not_eq_true', decide_eq_false_iff_not, eqV_int, eqV_str, eqV_bl, decide_true, reduceCtorEq, not_true_eq_false, not_false_eq_true, Bool.not_eq_true, List.not_mem_nil, false_implies, implies_true, Int.reduceNeg, Int.reduceToNat, Int.reducePow, Int.reduceMul, Int.reduceAdd, draw_i, ix_t0, ix_t1, ix_t2, ix_t3, ix_m3, ix_m4, sn_ball_box, sn_cell_box, sn_cell_ball, sn_ball_cell, sn_box_ball, sn_box_cell, decide_false]
    refine ⟨by decide, chk_i ?_ ?_⟩
    · exact ⟨rfl, fun es e => by
        cases e
        exact ⟨by decide, fun d hd => by rw [List.mem_singleton.mp hd]; rfl⟩⟩
    have ev : vdue (D.tup [.int 0]) 1 = none := rfl
    rw [ev]
    simp (disch := first | assumption | decide) only [wSeq, wNext, wAsg, wgName, wIfS, wB, wOp, wVar, wC, wCall, wCallK, wCons, wNil, wRet, wRetN, wDrop, wTup, wLst, wIf, wAnd, wOr, wNot, wAndV, wOrV, wNotV, wNeg, wChain, fI, fI0, addD, fLt, fLe, fGt, fGe, fIsB, wCB, fAbs, f2I, fInt, fIsq, wPar, wPar3, permD, startE, List.map_cons, List.map_nil, List.cons_append, List.nil_append, List.append_nil, List.length_cons, List.length_nil, List.replicate, List.getElem?_cons_zero, List.getElem?_cons_succ, List.set_cons_zero, List.set_cons_succ, List.getD_cons_zero, List.getD_cons_succ, Nat.reduceAdd, Nat.reduceSub, Nat.zero_add, true_and, and_true, Bool.not_true, Bool.not_false, if_true, if_false, Bool.false_eq_true, reduceIte, decide_eq_true_eq, Bool.not_eq_true', decide_eq_false_iff_not, eqV_int, eqV_str, eqV_bl, decide_true, reduceCtorEq, not_true_eq_false, not_false_eq_true, Bool.not_eq_true, List.not_mem_nil, false_implies, implies_true, Int.reduceNeg, Int.reduceToNat, Int.reducePow, Int.reduceMul, Int.reduceAdd, draw_i, ix_t0, ix_t1, ix_t2, ix_t3, ix_m3, ix_m4, sn_ball_box, sn_cell_box, sn_cell_ball, sn_ball_cell, sn_box_ball, sn_box_cell, decide_false, fIsN]
    exact q _
end K01
namespace K01
open PySem L2 L3
theorem len_is_int : ∀ ds M Q E, F_is_int ds M Q E → ds.length = 1 := by
  rintro ds M Q E ⟨_, rfl, _⟩
  rfl
theorem len_is_tuple_of : ∀ ds M Q E, F_is_tuple_of ds M Q E → ds.length = 2 := by
  rintro ds M Q E ⟨_, _, rfl, _⟩
  rfl
theorem len_is_vector : ∀ ds M Q E, F_is_vector ds M Q E → ds.length = 2 := by
  rintro ds M Q E ⟨_, _, rfl, _⟩
  rfl
theorem len_check_vector : ∀ ds M Q E, F_check_vector ds M Q E → ds.length = 2 := by
  rintro ds M Q E ⟨_, _, rfl, _⟩
  rfl
theorem len_is_kind : ∀ ds M Q E, F_is_kind ds M Q E → ds.length = 1 := by
  rintro ds M Q E ⟨_, rfl, _⟩
  rfl
theorem len__law_heap : ∀ ds M Q E, F__law_heap ds M Q E → ds.length = 1 := by
  rintro ds M Q E ⟨_, rfl, _⟩
  rfl
theorem len__law_pick : ∀ ds M Q E, pickF ds M Q E → ds.length = 2 := by
  rintro ds M Q E ⟨_, _, _, _, rfl, _⟩
  rfl
theorem len__law_heard : ∀ ds M Q E, F__law_heard ds M Q E → ds.length = 2 := by
  rintro ds M Q E ⟨_, _, rfl, _⟩
  rfl
theorem len__law_right : ∀ ds M Q E, F__law_right ds M Q E → ds.length = 3 := by
  rintro ds M Q E ⟨_, _, rfl, _⟩
  rfl
theorem len__law_spoilt_right : ∀ ds M Q E, F__law_spoilt_right ds M Q E → ds.length = 2 := by
  rintro ds M Q E ⟨_, _, _, _, rfl, _⟩
  rfl
theorem len__law_errors_right : ∀ ds M Q E, F__law_errors_right ds M Q E → ds.length = 1 := by
  rintro ds M Q E ⟨_, _, rfl, _⟩
  rfl
theorem len_law : ∀ ds M Q E, F_law ds M Q E → ds.length = 1 := by
  rintro ds M Q E ⟨_, rfl, _⟩
  rfl
/-! ### all together -/
theorem all_mk {l : PySem.W.OpenLaw} (hl : l.prog = PySem.Challenge.pw_nonearer_k01_vectors_told_and_refused) {w : World} {K : PySem.W.Frag} {h : Heap} {mg : Str → Option Value} {fa : Addr} (X : K.In h) (G : h.Ns mainGlobals mg) (hfa : mg "law" = some (.ref fa))
    {f0 : Addr} {od0 an0 : Option Addr} {sl0 : Array (Option Value)} {oc0 kV0 dc0 pm0 cd0 ct0 : Value}
    {f1 : Addr} {od1 an1 : Option Addr} {sl1 : Array (Option Value)} {oc1 kV1 dc1 pm1 cd1 ct1 : Value}
    {f2 : Addr} {od2 an2 : Option Addr} {sl2 : Array (Option Value)} {oc2 kV2 dc2 pm2 cd2 ct2 : Value}
    {f3 : Addr} {od3 an3 : Option Addr} {sl3 : Array (Option Value)} {oc3 kV3 dc3 pm3 cd3 ct3 : Value}
    {f4 : Addr} {od4 an4 : Option Addr} {sl4 : Array (Option Value)} {oc4 kV4 dc4 pm4 cd4 ct4 : Value}
    {f5 : Addr} {od5 an5 : Option Addr} {sl5 : Array (Option Value)} {oc5 kV5 dc5 pm5 cd5 ct5 : Value}
    {f6 : Addr} {od6 an6 : Option Addr} {sl6 : Array (Option Value)} {oc6 kV6 dc6 pm6 cd6 ct6 : Value}
    {f7 : Addr} {od7 an7 : Option Addr} {sl7 : Array (Option Value)} {oc7 kV7 dc7 pm7 cd7 ct7 : Value}
    {f8 : Addr} {od8 an8 : Option Addr} {sl8 : Array (Option Value)} {oc8 kV8 dc8 pm8 cd8 ct8 : Value}
    {f9 : Addr} {od9 an9 : Option Addr} {sl9 : Array (Option Value)} {oc9 kV9 dc9 pm9 cd9 ct9 : Value}
    {f10 : Addr} {od10 an10 : Option Addr} {sl10 : Array (Option Value)} {oc10 kV10 dc10 pm10 cd10 ct10 : Value}
    {f11 : Addr} {od11 an11 : Option Addr} {sl11 : Array (Option Value)} {oc11 kV11 dc11 pm11 cd11 ct11 : Value}
    {f12 : Addr} {od12 an12 : Option Addr} {sl12 : Array (Option Value)} {oc12 kV12 dc12 pm12 cd12 ct12 : Value}
    {c_StoreError : Addr} {nm_StoreError q_StoreError : Str} {N_StoreError : Addr} {bs_StoreError : List Value} {sn_StoreError : List Str} {sub_StoreError : List Value} {ab_StoreError : Bool} {col_StoreError : Option Bool} {dd_StoreError : Option Addr} {m0_StoreError m1_StoreError m2_StoreError m3_StoreError m5_StoreError : Option Value}
    {c_InvalidVector : Addr} {nm_InvalidVector q_InvalidVector : Str} {N_InvalidVector : Addr} {bs_InvalidVector : List Value} {sn_InvalidVector : List Str} {sub_InvalidVector : List Value} {ab_InvalidVector : Bool} {col_InvalidVector : Option Bool} {dd_InvalidVector : Option Addr} {m0_InvalidVector m1_InvalidVector m2_InvalidVector m3_InvalidVector m5_InvalidVector : Option Value}
    {c_InvalidItem : Addr} {nm_InvalidItem q_InvalidItem : Str} {N_InvalidItem : Addr} {bs_InvalidItem : List Value} {sn_InvalidItem : List Str} {sub_InvalidItem : List Value} {ab_InvalidItem : Bool} {col_InvalidItem : Option Bool} {dd_InvalidItem : Option Addr} {m0_InvalidItem m1_InvalidItem m2_InvalidItem m3_InvalidItem m5_InvalidItem : Option Value}
    {c_InvalidFilter : Addr} {nm_InvalidFilter q_InvalidFilter : Str} {N_InvalidFilter : Addr} {bs_InvalidFilter : List Value} {sn_InvalidFilter : List Str} {sub_InvalidFilter : List Value} {ab_InvalidFilter : Bool} {col_InvalidFilter : Option Bool} {dd_InvalidFilter : Option Addr} {m0_InvalidFilter m1_InvalidFilter m2_InvalidFilter m3_InvalidFilter m5_InvalidFilter : Option Value}
    {c_InvalidQuestion : Addr} {nm_InvalidQuestion q_InvalidQuestion : Str} {N_InvalidQuestion : Addr} {bs_InvalidQuestion : List Value} {sn_InvalidQuestion : List Str} {sub_InvalidQuestion : List Value} {ab_InvalidQuestion : Bool} {col_InvalidQuestion : Option Bool} {dd_InvalidQuestion : Option Addr} {m0_InvalidQuestion m1_InvalidQuestion m2_InvalidQuestion m3_InvalidQuestion m5_InvalidQuestion : Option Value}
    {c_InvalidText : Addr} {nm_InvalidText q_InvalidText : Str} {N_InvalidText : Addr} {bs_InvalidText : List Value} {sn_InvalidText : List Str} {sub_InvalidText : List Value} {ab_InvalidText : Bool} {col_InvalidText : Option Bool} {dd_InvalidText : Option Addr} {m0_InvalidText m1_InvalidText m2_InvalidText m3_InvalidText m5_InvalidText : Option Value}
    {c_InvalidPaper : Addr} {nm_InvalidPaper q_InvalidPaper : Str} {N_InvalidPaper : Addr} {bs_InvalidPaper : List Value} {sn_InvalidPaper : List Str} {sub_InvalidPaper : List Value} {ab_InvalidPaper : Bool} {col_InvalidPaper : Option Bool} {dd_InvalidPaper : Option Addr} {m0_InvalidPaper m1_InvalidPaper m2_InvalidPaper m3_InvalidPaper m5_InvalidPaper : Option Value}
    {c_InvalidNumber : Addr} {nm_InvalidNumber q_InvalidNumber : Str} {N_InvalidNumber : Addr} {bs_InvalidNumber : List Value} {sn_InvalidNumber : List Str} {sub_InvalidNumber : List Value} {ab_InvalidNumber : Bool} {col_InvalidNumber : Option Bool} {dd_InvalidNumber : Option Addr} {m0_InvalidNumber m1_InvalidNumber m2_InvalidNumber m3_InvalidNumber m5_InvalidNumber : Option Value}
    {c_Refused : Addr} {nm_Refused q_Refused : Str} {N_Refused : Addr} {bs_Refused : List Value} {sn_Refused : List Str} {sub_Refused : List Value} {ab_Refused : Bool} {col_Refused : Option Bool} {dd_Refused : Option Addr} {m0_Refused m1_Refused m2_Refused m3_Refused m5_Refused : Option Value}
    {c_Broken : Addr} {nm_Broken q_Broken : Str} {N_Broken : Addr} {bs_Broken : List Value} {sn_Broken : List Str} {sub_Broken : List Value} {ab_Broken : Bool} {col_Broken : Option Bool} {dd_Broken : Option Addr} {m0_Broken m1_Broken m2_Broken m3_Broken m5_Broken : Option Value}
    {f_InvalidVector : Addr} {of_InvalidVector af_InvalidVector : Option Addr} {sf_InvalidVector : Array (Option Value)} {o1_InvalidVector kf_InvalidVector d1_InvalidVector p1_InvalidVector cdf_InvalidVector ct_InvalidVector : Value}
    {f_InvalidItem : Addr} {of_InvalidItem af_InvalidItem : Option Addr} {sf_InvalidItem : Array (Option Value)} {o1_InvalidItem kf_InvalidItem d1_InvalidItem p1_InvalidItem cdf_InvalidItem ct_InvalidItem : Value}
    {f_InvalidFilter : Addr} {of_InvalidFilter af_InvalidFilter : Option Addr} {sf_InvalidFilter : Array (Option Value)} {o1_InvalidFilter kf_InvalidFilter d1_InvalidFilter p1_InvalidFilter cdf_InvalidFilter ct_InvalidFilter : Value}
    {f_InvalidQuestion : Addr} {of_InvalidQuestion af_InvalidQuestion : Option Addr} {sf_InvalidQuestion : Array (Option Value)} {o1_InvalidQuestion kf_InvalidQuestion d1_InvalidQuestion p1_InvalidQuestion cdf_InvalidQuestion ct_InvalidQuestion : Value}
    {f_InvalidText : Addr} {of_InvalidText af_InvalidText : Option Addr} {sf_InvalidText : Array (Option Value)} {o1_InvalidText kf_InvalidText d1_InvalidText p1_InvalidText cdf_InvalidText ct_InvalidText : Value}
    {f_InvalidPaper : Addr} {of_InvalidPaper af_InvalidPaper : Option Addr} {sf_InvalidPaper : Array (Option Value)} {o1_InvalidPaper kf_InvalidPaper d1_InvalidPaper p1_InvalidPaper cdf_InvalidPaper ct_InvalidPaper : Value}
    {f_InvalidNumber : Addr} {of_InvalidNumber af_InvalidNumber : Option Addr} {sf_InvalidNumber : Array (Option Value)} {o1_InvalidNumber kf_InvalidNumber d1_InvalidNumber p1_InvalidNumber cdf_InvalidNumber ct_InvalidNumber : Value}
    {f_Refused : Addr} {of_Refused af_Refused : Option Addr} {sf_Refused : Array (Option Value)} {o1_Refused kf_Refused d1_Refused p1_Refused cdf_Refused ct_Refused : Value}
    {f_Broken : Addr} {of_Broken af_Broken : Option Addr} {sf_Broken : Array (Option Value)} {o1_Broken kf_Broken d1_Broken p1_Broken cdf_Broken ct_Broken : Value}
    {aKINDS : Addr} {odKINDS : Option Addr} {nKINDS : Nat} {slKINDS : Array (Option Value)} {tKINDS0 tKINDS1 tKINDS2 tKINDS3 : Tok}
    (a0 : PySem.W.nsIn K mainGlobals "is_int" = some (some (.ref f0))) (l0 : K.lookup f0 = some ⟨oc0, od0, .func (PySem.W.fnOf "is_int" "is_int" (defArgs s_is_int) (defBody s_is_int) (defScope s_is_int) .none kV0 dc0 pm0 an0 cd0 ct0), sl0⟩) (c0 : PySem.W.codeIn K cd0 "is_int" = true) (k0 : PySem.W.keepIn K (.ref f0) = true)
    (a1 : PySem.W.nsIn K mainGlobals "is_tuple_of" = some (some (.ref f1))) (l1 : K.lookup f1 = some ⟨oc1, od1, .func (PySem.W.fnOf "is_tuple_of" "is_tuple_of" (defArgs s_is_tuple_of) (defBody s_is_tuple_of) (defScope s_is_tuple_of) .none kV1 dc1 pm1 an1 cd1 ct1), sl1⟩) (c1 : PySem.W.codeIn K cd1 "is_tuple_of" = true) (k1 : PySem.W.keepIn K (.ref f1) = true)
    (a2 : PySem.W.nsIn K mainGlobals "is_vector" = some (some (.ref f2))) (l2 : K.lookup f2 = some ⟨oc2, od2, .func (PySem.W.fnOf "is_vector" "is_vector" (defArgs s_is_vector) (defBody s_is_vector) (defScope s_is_vector) .none kV2 dc2 pm2 an2 cd2 ct2), sl2⟩) (c2 : PySem.W.codeIn K cd2 "is_vector" = true) (k2 : PySem.W.keepIn K (.ref f2) = true)
    (a3 : PySem.W.nsIn K mainGlobals "check_vector" = some (some (.ref f3))) (l3 : K.lookup f3 = some ⟨oc3, od3, .func (PySem.W.fnOf "check_vector" "check_vector" (defArgs s_check_vector) (defBody s_check_vector) (defScope s_check_vector) .none kV3 dc3 pm3 an3 cd3 ct3), sl3⟩) (c3 : PySem.W.codeIn K cd3 "check_vector" = true) (k3 : PySem.W.keepIn K (.ref f3) = true)
    (a4 : PySem.W.nsIn K mainGlobals "is_kind" = some (some (.ref f4))) (l4 : K.lookup f4 = some ⟨oc4, od4, .func (PySem.W.fnOf "is_kind" "is_kind" (defArgs s_is_kind) (defBody s_is_kind) (defScope s_is_kind) .none kV4 dc4 pm4 an4 cd4 ct4), sl4⟩) (c4 : PySem.W.codeIn K cd4 "is_kind" = true) (k4 : PySem.W.keepIn K (.ref f4) = true)
    (a5 : PySem.W.nsIn K mainGlobals "_law_heap" = some (some (.ref f5))) (l5 : K.lookup f5 = some ⟨oc5, od5, .func (PySem.W.fnOf "_law_heap" "_law_heap" (defArgs s__law_heap) (defBody s__law_heap) (defScope s__law_heap) .none kV5 dc5 pm5 an5 cd5 ct5), sl5⟩) (c5 : PySem.W.codeIn K cd5 "_law_heap" = true) (k5 : PySem.W.keepIn K (.ref f5) = true)
    (a6 : PySem.W.nsIn K mainGlobals "_law_draw" = some (some (.ref f6))) (l6 : K.lookup f6 = some ⟨oc6, od6, .func (PySem.W.fnOf "_law_draw" "_law_draw" (defArgs s__law_draw) (defBody s__law_draw) (defScope s__law_draw) .none kV6 dc6 pm6 an6 cd6 ct6), sl6⟩) (c6 : PySem.W.codeIn K cd6 "_law_draw" = true) (k6 : PySem.W.keepIn K (.ref f6) = true)
    (a7 : PySem.W.nsIn K mainGlobals "_law_pick" = some (some (.ref f7))) (l7 : K.lookup f7 = some ⟨oc7, od7, .func (PySem.W.fnOf "_law_pick" "_law_pick" (defArgs s__law_pick) (defBody s__law_pick) (defScope s__law_pick) .none kV7 dc7 pm7 an7 cd7 ct7), sl7⟩) (c7 : PySem.W.codeIn K cd7 "_law_pick" = true) (k7 : PySem.W.keepIn K (.ref f7) = true)
    (a8 : PySem.W.nsIn K mainGlobals "_law_heard" = some (some (.ref f8))) (l8 : K.lookup f8 = some ⟨oc8, od8, .func (PySem.W.fnOf "_law_heard" "_law_heard" (defArgs s__law_heard) (defBody s__law_heard) (defScope s__law_heard) .none kV8 dc8 pm8 an8 cd8 ct8), sl8⟩) (c8 : PySem.W.codeIn K cd8 "_law_heard" = true) (k8 : PySem.W.keepIn K (.ref f8) = true)
    (a9 : PySem.W.nsIn K mainGlobals "_law_right" = some (some (.ref f9))) (l9 : K.lookup f9 = some ⟨oc9, od9, .func (PySem.W.fnOf "_law_right" "_law_right" (defArgs s__law_right) (defBody s__law_right) (defScope s__law_right) .none kV9 dc9 pm9 an9 cd9 ct9), sl9⟩) (c9 : PySem.W.codeIn K cd9 "_law_right" = true) (k9 : PySem.W.keepIn K (.ref f9) = true)
    (a10 : PySem.W.nsIn K mainGlobals "_law_spoilt_right" = some (some (.ref f10))) (l10 : K.lookup f10 = some ⟨oc10, od10, .func (PySem.W.fnOf "_law_spoilt_right" "_law_spoilt_right" (defArgs s__law_spoilt_right) (defBody s__law_spoilt_right) (defScope s__law_spoilt_right) .none kV10 dc10 pm10 an10 cd10 ct10), sl10⟩) (c10 : PySem.W.codeIn K cd10 "_law_spoilt_right" = true) (k10 : PySem.W.keepIn K (.ref f10) = true)
    (a11 : PySem.W.nsIn K mainGlobals "_law_errors_right" = some (some (.ref f11))) (l11 : K.lookup f11 = some ⟨oc11, od11, .func (PySem.W.fnOf "_law_errors_right" "_law_errors_right" (defArgs s__law_errors_right) (defBody s__law_errors_right) (defScope s__law_errors_right) .none kV11 dc11 pm11 an11 cd11 ct11), sl11⟩) (c11 : PySem.W.codeIn K cd11 "_law_errors_right" = true) (k11 : PySem.W.keepIn K (.ref f11) = true)
    (a12 : PySem.W.nsIn K mainGlobals "law" = some (some (.ref f12))) (l12 : K.lookup f12 = some ⟨oc12, od12, .func (PySem.W.fnOf "law" "law" (defArgs s_law) (defBody s_law) (defScope s_law) .none kV12 dc12 pm12 an12 cd12 ct12), sl12⟩) (c12 : PySem.W.codeIn K cd12 "law" = true) (k12 : PySem.W.keepIn K (.ref f12) = true)
    (n_StoreError : PySem.W.nsIn K mainGlobals "StoreError" = some (some (.ref c_StoreError)))
    (x_StoreError : K.lookup c_StoreError = some (excClassObj nm_StoreError q_StoreError c_StoreError N_StoreError bs_StoreError [.type "ValueError", .type "Exception", .type "BaseException", .type "object"] true sn_StoreError sub_StoreError ab_StoreError col_StoreError dd_StoreError m0_StoreError m1_StoreError m2_StoreError m3_StoreError m5_StoreError "ValueError.__new__"))
    (sa_StoreError : PySem.W.findIn K (.ref c_StoreError) "__setattr__" = some (some (.builtin "object.__setattr__")))
    (ga_StoreError : PySem.W.findIn K (.ref c_StoreError) "__getattribute__" = some (some (.builtin "BaseException.__getattribute__")))
    (gg_StoreError : PySem.W.findIn K (.ref c_StoreError) "__getattr__" = some none)
    (kc_StoreError : PySem.W.keepIn K (.ref c_StoreError) = true)
    (ec_StoreError : PySem.W.subIn K (.ref c_StoreError) (.type "BaseException") = some true)
    (tc_StoreError : PySem.W.typeIn K (.ref c_StoreError) = some (.type "type"))
    (hd_StoreError : PySem.W.hasDictIn K c_StoreError = true)
    (ic_StoreError : PySem.W.isClsIn K c_StoreError = true)
    (ha_StoreError : PySem.W.findIn K (.ref c_StoreError) "__class__" = some (some (.builtin "object.__class__")))
    (hm_StoreError : PySem.W.mroIn K c_StoreError (.type "object") = some true)
    (nf0_StoreError : PySem.W.findIn K (.ref c_StoreError) "at" = some none)
    (nf1_StoreError : PySem.W.findIn K (.ref c_StoreError) "line" = some none)
    (nf2_StoreError : PySem.W.findIn K (.ref c_StoreError) "word" = some none)
    (n_InvalidVector : PySem.W.nsIn K mainGlobals "InvalidVector" = some (some (.ref c_InvalidVector)))
    (x_InvalidVector : K.lookup c_InvalidVector = some (excClassObj nm_InvalidVector q_InvalidVector c_InvalidVector N_InvalidVector bs_InvalidVector [.ref c_StoreError, .type "ValueError", .type "Exception", .type "BaseException", .type "object"] true sn_InvalidVector sub_InvalidVector ab_InvalidVector col_InvalidVector dd_InvalidVector m0_InvalidVector m1_InvalidVector m2_InvalidVector m3_InvalidVector m5_InvalidVector "ValueError.__new__"))
    (sa_InvalidVector : PySem.W.findIn K (.ref c_InvalidVector) "__setattr__" = some (some (.builtin "object.__setattr__")))
    (ga_InvalidVector : PySem.W.findIn K (.ref c_InvalidVector) "__getattribute__" = some (some (.builtin "BaseException.__getattribute__")))
    (gg_InvalidVector : PySem.W.findIn K (.ref c_InvalidVector) "__getattr__" = some none)
    (kc_InvalidVector : PySem.W.keepIn K (.ref c_InvalidVector) = true)
    (ec_InvalidVector : PySem.W.subIn K (.ref c_InvalidVector) (.type "BaseException") = some true)
    (tc_InvalidVector : PySem.W.typeIn K (.ref c_InvalidVector) = some (.type "type"))
    (hd_InvalidVector : PySem.W.hasDictIn K c_InvalidVector = true)
    (ic_InvalidVector : PySem.W.isClsIn K c_InvalidVector = true)
    (ha_InvalidVector : PySem.W.findIn K (.ref c_InvalidVector) "__class__" = some (some (.builtin "object.__class__")))
    (hm_InvalidVector : PySem.W.mroIn K c_InvalidVector (.type "object") = some true)
    (nf0_InvalidVector : PySem.W.findIn K (.ref c_InvalidVector) "at" = some none)
    (nf1_InvalidVector : PySem.W.findIn K (.ref c_InvalidVector) "line" = some none)
    (nf2_InvalidVector : PySem.W.findIn K (.ref c_InvalidVector) "word" = some none)
    (gi_InvalidVector : PySem.W.findIn K (.ref c_InvalidVector) "__init__" = some (some (.ref f_InvalidVector)))
    (ti_InvalidVector : PySem.W.typeIn K (.ref f_InvalidVector) = some (.type "function"))
    (li_InvalidVector : K.lookup f_InvalidVector = some ⟨o1_InvalidVector, of_InvalidVector, .func (PySem.W.fnOf "__init__" "InvalidVector.__init__" (defArgs i_InvalidVector) (defBody i_InvalidVector) (defScope i_InvalidVector) .none kf_InvalidVector d1_InvalidVector p1_InvalidVector af_InvalidVector cdf_InvalidVector ct_InvalidVector), sf_InvalidVector⟩)
    (cc_InvalidVector : PySem.W.codeIn K cdf_InvalidVector "InvalidVector.__init__" = true)
    (ki_InvalidVector : PySem.W.keepIn K (.ref f_InvalidVector) = true)
    (n_InvalidItem : PySem.W.nsIn K mainGlobals "InvalidItem" = some (some (.ref c_InvalidItem)))
    (x_InvalidItem : K.lookup c_InvalidItem = some (excClassObj nm_InvalidItem q_InvalidItem c_InvalidItem N_InvalidItem bs_InvalidItem [.ref c_StoreError, .type "ValueError", .type "Exception", .type "BaseException", .type "object"] true sn_InvalidItem sub_InvalidItem ab_InvalidItem col_InvalidItem dd_InvalidItem m0_InvalidItem m1_InvalidItem m2_InvalidItem m3_InvalidItem m5_InvalidItem "ValueError.__new__"))
    (sa_InvalidItem : PySem.W.findIn K (.ref c_InvalidItem) "__setattr__" = some (some (.builtin "object.__setattr__")))
    (ga_InvalidItem : PySem.W.findIn K (.ref c_InvalidItem) "__getattribute__" = some (some (.builtin "BaseException.__getattribute__")))
    (gg_InvalidItem : PySem.W.findIn K (.ref c_InvalidItem) "__getattr__" = some none)
    (kc_InvalidItem : PySem.W.keepIn K (.ref c_InvalidItem) = true)
    (ec_InvalidItem : PySem.W.subIn K (.ref c_InvalidItem) (.type "BaseException") = some true)
    (tc_InvalidItem : PySem.W.typeIn K (.ref c_InvalidItem) = some (.type "type"))
    (hd_InvalidItem : PySem.W.hasDictIn K c_InvalidItem = true)
    (ic_InvalidItem : PySem.W.isClsIn K c_InvalidItem = true)
    (ha_InvalidItem : PySem.W.findIn K (.ref c_InvalidItem) "__class__" = some (some (.builtin "object.__class__")))
    (hm_InvalidItem : PySem.W.mroIn K c_InvalidItem (.type "object") = some true)
    (nf0_InvalidItem : PySem.W.findIn K (.ref c_InvalidItem) "at" = some none)
    (nf1_InvalidItem : PySem.W.findIn K (.ref c_InvalidItem) "line" = some none)
    (nf2_InvalidItem : PySem.W.findIn K (.ref c_InvalidItem) "word" = some none)
    (gi_InvalidItem : PySem.W.findIn K (.ref c_InvalidItem) "__init__" = some (some (.ref f_InvalidItem)))
    (ti_InvalidItem : PySem.W.typeIn K (.ref f_InvalidItem) = some (.type "function"))
    (li_InvalidItem : K.lookup f_InvalidItem = some ⟨o1_InvalidItem, of_InvalidItem, .func (PySem.W.fnOf "__init__" "InvalidItem.__init__" (defArgs i_InvalidItem) (defBody i_InvalidItem) (defScope i_InvalidItem) .none kf_InvalidItem d1_InvalidItem p1_InvalidItem af_InvalidItem cdf_InvalidItem ct_InvalidItem), sf_InvalidItem⟩)
    (cc_InvalidItem : PySem.W.codeIn K cdf_InvalidItem "InvalidItem.__init__" = true)
    (ki_InvalidItem : PySem.W.keepIn K (.ref f_InvalidItem) = true)
    (n_InvalidFilter : PySem.W.nsIn K mainGlobals "InvalidFilter" = some (some (.ref c_InvalidFilter)))
    (x_InvalidFilter : K.lookup c_InvalidFilter = some (excClassObj nm_InvalidFilter q_InvalidFilter c_InvalidFilter N_InvalidFilter bs_InvalidFilter [.ref c_StoreError, .type "ValueError", .type "Exception", .type "BaseException", .type "object"] true sn_InvalidFilter sub_InvalidFilter ab_InvalidFilter col_InvalidFilter dd_InvalidFilter m0_InvalidFilter m1_InvalidFilter m2_InvalidFilter m3_InvalidFilter m5_InvalidFilter "ValueError.__new__"))
    (sa_InvalidFilter : PySem.W.findIn K (.ref c_InvalidFilter) "__setattr__" = some (some (.builtin "object.__setattr__")))
    (ga_InvalidFilter : PySem.W.findIn K (.ref c_InvalidFilter) "__getattribute__" = some (some (.builtin "BaseException.__getattribute__")))
    (gg_InvalidFilter : PySem.W.findIn K (.ref c_InvalidFilter) "__getattr__" = some none)
    (kc_InvalidFilter : PySem.W.keepIn K (.ref c_InvalidFilter) = true)
    (ec_InvalidFilter : PySem.W.subIn K (.ref c_InvalidFilter) (.type "BaseException") = some true)
    (tc_InvalidFilter : PySem.W.typeIn K (.ref c_InvalidFilter) = some (.type "type"))
    (hd_InvalidFilter : PySem.W.hasDictIn K c_InvalidFilter = true)
    (ic_InvalidFilter : PySem.W.isClsIn K c_InvalidFilter = true)
    (ha_InvalidFilter : PySem.W.findIn K (.ref c_InvalidFilter) "__class__" = some (some (.builtin "object.__class__")))
    (hm_InvalidFilter : PySem.W.mroIn K c_InvalidFilter (.type "object") = some true)
    (nf0_InvalidFilter : PySem.W.findIn K (.ref c_InvalidFilter) "at" = some none)
    (nf1_InvalidFilter : PySem.W.findIn K (.ref c_InvalidFilter) "line" = some none)
    (nf2_InvalidFilter : PySem.W.findIn K (.ref c_InvalidFilter) "word" = some none)
    (gi_InvalidFilter : PySem.W.findIn K (.ref c_InvalidFilter) "__init__" = some (some (.ref f_InvalidFilter)))
    (ti_InvalidFilter : PySem.W.typeIn K (.ref f_InvalidFilter) = some (.type "function"))
    (li_InvalidFilter : K.lookup f_InvalidFilter = some ⟨o1_InvalidFilter, of_InvalidFilter, .func (PySem.W.fnOf "__init__" "InvalidFilter.__init__" (defArgs i_InvalidFilter) (defBody i_InvalidFilter) (defScope i_InvalidFilter) .none kf_InvalidFilter d1_InvalidFilter p1_InvalidFilter af_InvalidFilter cdf_InvalidFilter ct_InvalidFilter), sf_InvalidFilter⟩)
    (cc_InvalidFilter : PySem.W.codeIn K cdf_InvalidFilter "InvalidFilter.__init__" = true)
    (ki_InvalidFilter : PySem.W.keepIn K (.ref f_InvalidFilter) = true)
    (n_InvalidQuestion : PySem.W.nsIn K mainGlobals "InvalidQuestion" = some (some (.ref c_InvalidQuestion)))
    (x_InvalidQuestion : K.lookup c_InvalidQuestion = some (excClassObj nm_InvalidQuestion q_InvalidQuestion c_InvalidQuestion N_InvalidQuestion bs_InvalidQuestion [.ref c_StoreError, .type "ValueError", .type "Exception", .type "BaseException", .type "object"] true sn_InvalidQuestion sub_InvalidQuestion ab_InvalidQuestion col_InvalidQuestion dd_InvalidQuestion m0_InvalidQuestion m1_InvalidQuestion m2_InvalidQuestion m3_InvalidQuestion m5_InvalidQuestion "ValueError.__new__"))
    (sa_InvalidQuestion : PySem.W.findIn K (.ref c_InvalidQuestion) "__setattr__" = some (some (.builtin "object.__setattr__")))
    (ga_InvalidQuestion : PySem.W.findIn K (.ref c_InvalidQuestion) "__getattribute__" = some (some (.builtin "BaseException.__getattribute__")))
    (gg_InvalidQuestion : PySem.W.findIn K (.ref c_InvalidQuestion) "__getattr__" = some none)
    (kc_InvalidQuestion : PySem.W.keepIn K (.ref c_InvalidQuestion) = true)
    (ec_InvalidQuestion : PySem.W.subIn K (.ref c_InvalidQuestion) (.type "BaseException") = some true)
    (tc_InvalidQuestion : PySem.W.typeIn K (.ref c_InvalidQuestion) = some (.type "type"))
    (hd_InvalidQuestion : PySem.W.hasDictIn K c_InvalidQuestion = true)
    (ic_InvalidQuestion : PySem.W.isClsIn K c_InvalidQuestion = true)
    (ha_InvalidQuestion : PySem.W.findIn K (.ref c_InvalidQuestion) "__class__" = some (some (.builtin "object.__class__")))
    (hm_InvalidQuestion : PySem.W.mroIn K c_InvalidQuestion (.type "object") = some true)
    (nf0_InvalidQuestion : PySem.W.findIn K (.ref c_InvalidQuestion) "at" = some none)
    (nf1_InvalidQuestion : PySem.W.findIn K (.ref c_InvalidQuestion) "line" = some none)
    (nf2_InvalidQuestion : PySem.W.findIn K (.ref c_InvalidQuestion) "word" = some none)
    (gi_InvalidQuestion : PySem.W.findIn K (.ref c_InvalidQuestion) "__init__" = some (some (.ref f_InvalidQuestion)))
    (ti_InvalidQuestion : PySem.W.typeIn K (.ref f_InvalidQuestion) = some (.type "function"))
    (li_InvalidQuestion : K.lookup f_InvalidQuestion = some ⟨o1_InvalidQuestion, of_InvalidQuestion, .func (PySem.W.fnOf "__init__" "InvalidQuestion.__init__" (defArgs i_InvalidQuestion) (defBody i_InvalidQuestion) (defScope i_InvalidQuestion) .none kf_InvalidQuestion d1_InvalidQuestion p1_InvalidQuestion af_InvalidQuestion cdf_InvalidQuestion ct_InvalidQuestion), sf_InvalidQuestion⟩)
    (cc_InvalidQuestion : PySem.W.codeIn K cdf_InvalidQuestion "InvalidQuestion.__init__" = true)
    (ki_InvalidQuestion : PySem.W.keepIn K (.ref f_InvalidQuestion) = true)
    (n_InvalidText : PySem.W.nsIn K mainGlobals "InvalidText" = some (some (.ref c_InvalidText)))
    (x_InvalidText : K.lookup c_InvalidText = some (excClassObj nm_InvalidText q_InvalidText c_InvalidText N_InvalidText bs_InvalidText [.ref c_StoreError, .type "ValueError", .type "Exception", .type "BaseException", .type "object"] true sn_InvalidText sub_InvalidText ab_InvalidText col_InvalidText dd_InvalidText m0_InvalidText m1_InvalidText m2_InvalidText m3_InvalidText m5_InvalidText "ValueError.__new__"))
    (sa_InvalidText : PySem.W.findIn K (.ref c_InvalidText) "__setattr__" = some (some (.builtin "object.__setattr__")))
    (ga_InvalidText : PySem.W.findIn K (.ref c_InvalidText) "__getattribute__" = some (some (.builtin "BaseException.__getattribute__")))
    (gg_InvalidText : PySem.W.findIn K (.ref c_InvalidText) "__getattr__" = some none)
    (kc_InvalidText : PySem.W.keepIn K (.ref c_InvalidText) = true)
    (ec_InvalidText : PySem.W.subIn K (.ref c_InvalidText) (.type "BaseException") = some true)
    (tc_InvalidText : PySem.W.typeIn K (.ref c_InvalidText) = some (.type "type"))
    (hd_InvalidText : PySem.W.hasDictIn K c_InvalidText = true)
    (ic_InvalidText : PySem.W.isClsIn K c_InvalidText = true)
    (ha_InvalidText : PySem.W.findIn K (.ref c_InvalidText) "__class__" = some (some (.builtin "object.__class__")))
    (hm_InvalidText : PySem.W.mroIn K c_InvalidText (.type "object") = some true)
    (nf0_InvalidText : PySem.W.findIn K (.ref c_InvalidText) "at" = some none)
    (nf1_InvalidText : PySem.W.findIn K (.ref c_InvalidText) "line" = some none)
    (nf2_InvalidText : PySem.W.findIn K (.ref c_InvalidText) "word" = some none)
    (gi_InvalidText : PySem.W.findIn K (.ref c_InvalidText) "__init__" = some (some (.ref f_InvalidText)))
    (ti_InvalidText : PySem.W.typeIn K (.ref f_InvalidText) = some (.type "function"))
    (li_InvalidText : K.lookup f_InvalidText = some ⟨o1_InvalidText, of_InvalidText, .func (PySem.W.fnOf "__init__" "InvalidText.__init__" (defArgs i_InvalidText) (defBody i_InvalidText) (defScope i_InvalidText) .none kf_InvalidText d1_InvalidText p1_InvalidText af_InvalidText cdf_InvalidText ct_InvalidText), sf_InvalidText⟩)
    (cc_InvalidText : PySem.W.codeIn K cdf_InvalidText "InvalidText.__init__" = true)
    (ki_InvalidText : PySem.W.keepIn K (.ref f_InvalidText) = true)
    (n_InvalidPaper : PySem.W.nsIn K mainGlobals "InvalidPaper" = some (some (.ref c_InvalidPaper)))
    (x_InvalidPaper : K.lookup c_InvalidPaper = some (excClassObj nm_InvalidPaper q_InvalidPaper c_InvalidPaper N_InvalidPaper bs_InvalidPaper [.ref c_StoreError, .type "ValueError", .type "Exception", .type "BaseException", .type "object"] true sn_InvalidPaper sub_InvalidPaper ab_InvalidPaper col_InvalidPaper dd_InvalidPaper m0_InvalidPaper m1_InvalidPaper m2_InvalidPaper m3_InvalidPaper m5_InvalidPaper "ValueError.__new__"))
    (sa_InvalidPaper : PySem.W.findIn K (.ref c_InvalidPaper) "__setattr__" = some (some (.builtin "object.__setattr__")))
    (ga_InvalidPaper : PySem.W.findIn K (.ref c_InvalidPaper) "__getattribute__" = some (some (.builtin "BaseException.__getattribute__")))
    (gg_InvalidPaper : PySem.W.findIn K (.ref c_InvalidPaper) "__getattr__" = some none)
    (kc_InvalidPaper : PySem.W.keepIn K (.ref c_InvalidPaper) = true)
    (ec_InvalidPaper : PySem.W.subIn K (.ref c_InvalidPaper) (.type "BaseException") = some true)
    (tc_InvalidPaper : PySem.W.typeIn K (.ref c_InvalidPaper) = some (.type "type"))
    (hd_InvalidPaper : PySem.W.hasDictIn K c_InvalidPaper = true)
    (ic_InvalidPaper : PySem.W.isClsIn K c_InvalidPaper = true)
    (ha_InvalidPaper : PySem.W.findIn K (.ref c_InvalidPaper) "__class__" = some (some (.builtin "object.__class__")))
    (hm_InvalidPaper : PySem.W.mroIn K c_InvalidPaper (.type "object") = some true)
    (nf0_InvalidPaper : PySem.W.findIn K (.ref c_InvalidPaper) "at" = some none)
    (nf1_InvalidPaper : PySem.W.findIn K (.ref c_InvalidPaper) "line" = some none)
    (nf2_InvalidPaper : PySem.W.findIn K (.ref c_InvalidPaper) "word" = some none)
    (gi_InvalidPaper : PySem.W.findIn K (.ref c_InvalidPaper) "__init__" = some (some (.ref f_InvalidPaper)))
    (ti_InvalidPaper : PySem.W.typeIn K (.ref f_InvalidPaper) = some (.type "function"))
    (li_InvalidPaper : K.lookup f_InvalidPaper = some ⟨o1_InvalidPaper, of_InvalidPaper, .func (PySem.W.fnOf "__init__" "InvalidPaper.__init__" (defArgs i_InvalidPaper) (defBody i_InvalidPaper) (defScope i_InvalidPaper) .none kf_InvalidPaper d1_InvalidPaper p1_InvalidPaper af_InvalidPaper cdf_InvalidPaper ct_InvalidPaper), sf_InvalidPaper⟩)
    (cc_InvalidPaper : PySem.W.codeIn K cdf_InvalidPaper "InvalidPaper.__init__" = true)
    (ki_InvalidPaper : PySem.W.keepIn K (.ref f_InvalidPaper) = true)
    (n_InvalidNumber : PySem.W.nsIn K mainGlobals "InvalidNumber" = some (some (.ref c_InvalidNumber)))
    (x_InvalidNumber : K.lookup c_InvalidNumber = some (excClassObj nm_InvalidNumber q_InvalidNumber c_InvalidNumber N_InvalidNumber bs_InvalidNumber [.ref c_StoreError, .type "ValueError", .type "Exception", .type "BaseException", .type "object"] true sn_InvalidNumber sub_InvalidNumber ab_InvalidNumber col_InvalidNumber dd_InvalidNumber m0_InvalidNumber m1_InvalidNumber m2_InvalidNumber m3_InvalidNumber m5_InvalidNumber "ValueError.__new__"))
    (sa_InvalidNumber : PySem.W.findIn K (.ref c_InvalidNumber) "__setattr__" = some (some (.builtin "object.__setattr__")))
    (ga_InvalidNumber : PySem.W.findIn K (.ref c_InvalidNumber) "__getattribute__" = some (some (.builtin "BaseException.__getattribute__")))
    (gg_InvalidNumber : PySem.W.findIn K (.ref c_InvalidNumber) "__getattr__" = some none)
    (kc_InvalidNumber : PySem.W.keepIn K (.ref c_InvalidNumber) = true)
    (ec_InvalidNumber : PySem.W.subIn K (.ref c_InvalidNumber) (.type "BaseException") = some true)
    (tc_InvalidNumber : PySem.W.typeIn K (.ref c_InvalidNumber) = some (.type "type"))
    (hd_InvalidNumber : PySem.W.hasDictIn K c_InvalidNumber = true)
    (ic_InvalidNumber : PySem.W.isClsIn K c_InvalidNumber = true)
    (ha_InvalidNumber : PySem.W.findIn K (.ref c_InvalidNumber) "__class__" = some (some (.builtin "object.__class__")))
    (hm_InvalidNumber : PySem.W.mroIn K c_InvalidNumber (.type "object") = some true)
    (nf0_InvalidNumber : PySem.W.findIn K (.ref c_InvalidNumber) "at" = some none)
    (nf1_InvalidNumber : PySem.W.findIn K (.ref c_InvalidNumber) "line" = some none)
    (nf2_InvalidNumber : PySem.W.findIn K (.ref c_InvalidNumber) "word" = some none)
    (gi_InvalidNumber : PySem.W.findIn K (.ref c_InvalidNumber) "__init__" = some (some (.ref f_InvalidNumber)))
    (ti_InvalidNumber : PySem.W.typeIn K (.ref f_InvalidNumber) = some (.type "function"))
    (li_InvalidNumber : K.lookup f_InvalidNumber = some ⟨o1_InvalidNumber, of_InvalidNumber, .func (PySem.W.fnOf "__init__" "InvalidNumber.__init__" (defArgs i_InvalidNumber) (defBody i_InvalidNumber) (defScope i_InvalidNumber) .none kf_InvalidNumber d1_InvalidNumber p1_InvalidNumber af_InvalidNumber cdf_InvalidNumber ct_InvalidNumber), sf_InvalidNumber⟩)
    (cc_InvalidNumber : PySem.W.codeIn K cdf_InvalidNumber "InvalidNumber.__init__" = true)
    (ki_InvalidNumber : PySem.W.keepIn K (.ref f_InvalidNumber) = true)
    (n_Refused : PySem.W.nsIn K mainGlobals "Refused" = some (some (.ref c_Refused)))
    (x_Refused : K.lookup c_Refused = some (excClassObj nm_Refused q_Refused c_Refused N_Refused bs_Refused [.ref c_StoreError, .type "ValueError", .type "Exception", .type "BaseException", .type "object"] true sn_Refused sub_Refused ab_Refused col_Refused dd_Refused m0_Refused m1_Refused m2_Refused m3_Refused m5_Refused "ValueError.__new__"))
    (sa_Refused : PySem.W.findIn K (.ref c_Refused) "__setattr__" = some (some (.builtin "object.__setattr__")))
    (ga_Refused : PySem.W.findIn K (.ref c_Refused) "__getattribute__" = some (some (.builtin "BaseException.__getattribute__")))
    (gg_Refused : PySem.W.findIn K (.ref c_Refused) "__getattr__" = some none)
    (kc_Refused : PySem.W.keepIn K (.ref c_Refused) = true)
    (ec_Refused : PySem.W.subIn K (.ref c_Refused) (.type "BaseException") = some true)
    (tc_Refused : PySem.W.typeIn K (.ref c_Refused) = some (.type "type"))
    (hd_Refused : PySem.W.hasDictIn K c_Refused = true)
    (ic_Refused : PySem.W.isClsIn K c_Refused = true)
    (ha_Refused : PySem.W.findIn K (.ref c_Refused) "__class__" = some (some (.builtin "object.__class__")))
    (hm_Refused : PySem.W.mroIn K c_Refused (.type "object") = some true)
    (nf0_Refused : PySem.W.findIn K (.ref c_Refused) "at" = some none)
    (nf1_Refused : PySem.W.findIn K (.ref c_Refused) "line" = some none)
    (nf2_Refused : PySem.W.findIn K (.ref c_Refused) "word" = some none)
    (gi_Refused : PySem.W.findIn K (.ref c_Refused) "__init__" = some (some (.ref f_Refused)))
    (ti_Refused : PySem.W.typeIn K (.ref f_Refused) = some (.type "function"))
    (li_Refused : K.lookup f_Refused = some ⟨o1_Refused, of_Refused, .func (PySem.W.fnOf "__init__" "Refused.__init__" (defArgs i_Refused) (defBody i_Refused) (defScope i_Refused) .none kf_Refused d1_Refused p1_Refused af_Refused cdf_Refused ct_Refused), sf_Refused⟩)
    (cc_Refused : PySem.W.codeIn K cdf_Refused "Refused.__init__" = true)
    (ki_Refused : PySem.W.keepIn K (.ref f_Refused) = true)
    (n_Broken : PySem.W.nsIn K mainGlobals "Broken" = some (some (.ref c_Broken)))
    (x_Broken : K.lookup c_Broken = some (excClassObj nm_Broken q_Broken c_Broken N_Broken bs_Broken [.ref c_StoreError, .type "ValueError", .type "Exception", .type "BaseException", .type "object"] true sn_Broken sub_Broken ab_Broken col_Broken dd_Broken m0_Broken m1_Broken m2_Broken m3_Broken m5_Broken "ValueError.__new__"))
    (sa_Broken : PySem.W.findIn K (.ref c_Broken) "__setattr__" = some (some (.builtin "object.__setattr__")))
    (ga_Broken : PySem.W.findIn K (.ref c_Broken) "__getattribute__" = some (some (.builtin "BaseException.__getattribute__")))
    (gg_Broken : PySem.W.findIn K (.ref c_Broken) "__getattr__" = some none)
    (kc_Broken : PySem.W.keepIn K (.ref c_Broken) = true)
    (ec_Broken : PySem.W.subIn K (.ref c_Broken) (.type "BaseException") = some true)
    (tc_Broken : PySem.W.typeIn K (.ref c_Broken) = some (.type "type"))
    (hd_Broken : PySem.W.hasDictIn K c_Broken = true)
    (ic_Broken : PySem.W.isClsIn K c_Broken = true)
    (ha_Broken : PySem.W.findIn K (.ref c_Broken) "__class__" = some (some (.builtin "object.__class__")))
    (hm_Broken : PySem.W.mroIn K c_Broken (.type "object") = some true)
    (nf0_Broken : PySem.W.findIn K (.ref c_Broken) "at" = some none)
    (nf1_Broken : PySem.W.findIn K (.ref c_Broken) "line" = some none)
    (nf2_Broken : PySem.W.findIn K (.ref c_Broken) "word" = some none)
    (gi_Broken : PySem.W.findIn K (.ref c_Broken) "__init__" = some (some (.ref f_Broken)))
    (ti_Broken : PySem.W.typeIn K (.ref f_Broken) = some (.type "function"))
    (li_Broken : K.lookup f_Broken = some ⟨o1_Broken, of_Broken, .func (PySem.W.fnOf "__init__" "Broken.__init__" (defArgs i_Broken) (defBody i_Broken) (defScope i_Broken) .none kf_Broken d1_Broken p1_Broken af_Broken cdf_Broken ct_Broken), sf_Broken⟩)
    (cc_Broken : PySem.W.codeIn K cdf_Broken "Broken.__init__" = true)
    (ki_Broken : PySem.W.keepIn K (.ref f_Broken) = true)
    (kve_StoreError : PySem.W.kitOne K (.ref c_StoreError) (.type "ValueError") = some true)
    (kve_InvalidVector : PySem.W.kitOne K (.ref c_InvalidVector) (.type "ValueError") = some true)
    (kve_InvalidItem : PySem.W.kitOne K (.ref c_InvalidItem) (.type "ValueError") = some true)
    (kve_InvalidFilter : PySem.W.kitOne K (.ref c_InvalidFilter) (.type "ValueError") = some true)
    (kve_InvalidQuestion : PySem.W.kitOne K (.ref c_InvalidQuestion) (.type "ValueError") = some true)
    (kve_InvalidText : PySem.W.kitOne K (.ref c_InvalidText) (.type "ValueError") = some true)
    (kve_InvalidPaper : PySem.W.kitOne K (.ref c_InvalidPaper) (.type "ValueError") = some true)
    (kve_InvalidNumber : PySem.W.kitOne K (.ref c_InvalidNumber) (.type "ValueError") = some true)
    (kve_Refused : PySem.W.kitOne K (.ref c_Refused) (.type "ValueError") = some true)
    (kve_Broken : PySem.W.kitOne K (.ref c_Broken) (.type "ValueError") = some true)
    (su_Broken_StoreError : PySem.W.subIn K (.ref c_StoreError) (.ref c_Broken) = some false)
    (su_InvalidFilter_StoreError : PySem.W.subIn K (.ref c_StoreError) (.ref c_InvalidFilter) = some false)
    (su_InvalidItem_StoreError : PySem.W.subIn K (.ref c_StoreError) (.ref c_InvalidItem) = some false)
    (su_InvalidNumber_StoreError : PySem.W.subIn K (.ref c_StoreError) (.ref c_InvalidNumber) = some false)
    (su_InvalidPaper_StoreError : PySem.W.subIn K (.ref c_StoreError) (.ref c_InvalidPaper) = some false)
    (su_InvalidQuestion_StoreError : PySem.W.subIn K (.ref c_StoreError) (.ref c_InvalidQuestion) = some false)
    (su_InvalidText_StoreError : PySem.W.subIn K (.ref c_StoreError) (.ref c_InvalidText) = some false)
    (su_InvalidVector_StoreError : PySem.W.subIn K (.ref c_StoreError) (.ref c_InvalidVector) = some false)
    (su_Refused_StoreError : PySem.W.subIn K (.ref c_StoreError) (.ref c_Refused) = some false)
    (su_StoreError_StoreError : PySem.W.subIn K (.ref c_StoreError) (.ref c_StoreError) = some true)
    (su_Broken_InvalidVector : PySem.W.subIn K (.ref c_InvalidVector) (.ref c_Broken) = some false)
    (su_InvalidFilter_InvalidVector : PySem.W.subIn K (.ref c_InvalidVector) (.ref c_InvalidFilter) = some false)
    (su_InvalidItem_InvalidVector : PySem.W.subIn K (.ref c_InvalidVector) (.ref c_InvalidItem) = some false)
    (su_InvalidNumber_InvalidVector : PySem.W.subIn K (.ref c_InvalidVector) (.ref c_InvalidNumber) = some false)
    (su_InvalidPaper_InvalidVector : PySem.W.subIn K (.ref c_InvalidVector) (.ref c_InvalidPaper) = some false)
    (su_InvalidQuestion_InvalidVector : PySem.W.subIn K (.ref c_InvalidVector) (.ref c_InvalidQuestion) = some false)
    (su_InvalidText_InvalidVector : PySem.W.subIn K (.ref c_InvalidVector) (.ref c_InvalidText) = some false)
    (su_InvalidVector_InvalidVector : PySem.W.subIn K (.ref c_InvalidVector) (.ref c_InvalidVector) = some true)
    (su_Refused_InvalidVector : PySem.W.subIn K (.ref c_InvalidVector) (.ref c_Refused) = some false)
    (su_StoreError_InvalidVector : PySem.W.subIn K (.ref c_InvalidVector) (.ref c_StoreError) = some true)
    (su_Broken_InvalidItem : PySem.W.subIn K (.ref c_InvalidItem) (.ref c_Broken) = some false)
    (su_InvalidFilter_InvalidItem : PySem.W.subIn K (.ref c_InvalidItem) (.ref c_InvalidFilter) = some false)
    (su_InvalidItem_InvalidItem : PySem.W.subIn K (.ref c_InvalidItem) (.ref c_InvalidItem) = some true)
    (su_InvalidNumber_InvalidItem : PySem.W.subIn K (.ref c_InvalidItem) (.ref c_InvalidNumber) = some false)
    (su_InvalidPaper_InvalidItem : PySem.W.subIn K (.ref c_InvalidItem) (.ref c_InvalidPaper) = some false)
    (su_InvalidQuestion_InvalidItem : PySem.W.subIn K (.ref c_InvalidItem) (.ref c_InvalidQuestion) = some false)
    (su_InvalidText_InvalidItem : PySem.W.subIn K (.ref c_InvalidItem) (.ref c_InvalidText) = some false)
    (su_InvalidVector_InvalidItem : PySem.W.subIn K (.ref c_InvalidItem) (.ref c_InvalidVector) = some false)
    (su_Refused_InvalidItem : PySem.W.subIn K (.ref c_InvalidItem) (.ref c_Refused) = some false)
    (su_StoreError_InvalidItem : PySem.W.subIn K (.ref c_InvalidItem) (.ref c_StoreError) = some true)
    (su_Broken_InvalidFilter : PySem.W.subIn K (.ref c_InvalidFilter) (.ref c_Broken) = some false)
    (su_InvalidFilter_InvalidFilter : PySem.W.subIn K (.ref c_InvalidFilter) (.ref c_InvalidFilter) = some true)
    (su_InvalidItem_InvalidFilter : PySem.W.subIn K (.ref c_InvalidFilter) (.ref c_InvalidItem) = some false)
    (su_InvalidNumber_InvalidFilter : PySem.W.subIn K (.ref c_InvalidFilter) (.ref c_InvalidNumber) = some false)
    (su_InvalidPaper_InvalidFilter : PySem.W.subIn K (.ref c_InvalidFilter) (.ref c_InvalidPaper) = some false)
    (su_InvalidQuestion_InvalidFilter : PySem.W.subIn K (.ref c_InvalidFilter) (.ref c_InvalidQuestion) = some false)
    (su_InvalidText_InvalidFilter : PySem.W.subIn K (.ref c_InvalidFilter) (.ref c_InvalidText) = some false)
    (su_InvalidVector_InvalidFilter : PySem.W.subIn K (.ref c_InvalidFilter) (.ref c_InvalidVector) = some false)
    (su_Refused_InvalidFilter : PySem.W.subIn K (.ref c_InvalidFilter) (.ref c_Refused) = some false)
    (su_StoreError_InvalidFilter : PySem.W.subIn K (.ref c_InvalidFilter) (.ref c_StoreError) = some true)
    (su_Broken_InvalidQuestion : PySem.W.subIn K (.ref c_InvalidQuestion) (.ref c_Broken) = some false)
    (su_InvalidFilter_InvalidQuestion : PySem.W.subIn K (.ref c_InvalidQuestion) (.ref c_InvalidFilter) = some false)
    (su_InvalidItem_InvalidQuestion : PySem.W.subIn K (.ref c_InvalidQuestion) (.ref c_InvalidItem) = some false)
    (su_InvalidNumber_InvalidQuestion : PySem.W.subIn K (.ref c_InvalidQuestion) (.ref c_InvalidNumber) = some false)
    (su_InvalidPaper_InvalidQuestion : PySem.W.subIn K (.ref c_InvalidQuestion) (.ref c_InvalidPaper) = some false)
    (su_InvalidQuestion_InvalidQuestion : PySem.W.subIn K (.ref c_InvalidQuestion) (.ref c_InvalidQuestion) = some true)
    (su_InvalidText_InvalidQuestion : PySem.W.subIn K (.ref c_InvalidQuestion) (.ref c_InvalidText) = some false)
    (su_InvalidVector_InvalidQuestion : PySem.W.subIn K (.ref c_InvalidQuestion) (.ref c_InvalidVector) = some false)
    (su_Refused_InvalidQuestion : PySem.W.subIn K (.ref c_InvalidQuestion) (.ref c_Refused) = some false)
    (su_StoreError_InvalidQuestion : PySem.W.subIn K (.ref c_InvalidQuestion) (.ref c_StoreError) = some true)
    (su_Broken_InvalidText : PySem.W.subIn K (.ref c_InvalidText) (.ref c_Broken) = some false)
    (su_InvalidFilter_InvalidText : PySem.W.subIn K (.ref c_InvalidText) (.ref c_InvalidFilter) = some false)
    (su_InvalidItem_InvalidText : PySem.W.subIn K (.ref c_InvalidText) (.ref c_InvalidItem) = some false)
    (su_InvalidNumber_InvalidText : PySem.W.subIn K (.ref c_InvalidText) (.ref c_InvalidNumber) = some false)
    (su_InvalidPaper_InvalidText : PySem.W.subIn K (.ref c_InvalidText) (.ref c_InvalidPaper) = some false)
    (su_InvalidQuestion_InvalidText : PySem.W.subIn K (.ref c_InvalidText) (.ref c_InvalidQuestion) = some false)
    (su_InvalidText_InvalidText : PySem.W.subIn K (.ref c_InvalidText) (.ref c_InvalidText) = some true)
    (su_InvalidVector_InvalidText : PySem.W.subIn K (.ref c_InvalidText) (.ref c_InvalidVector) = some false)
    (su_Refused_InvalidText : PySem.W.subIn K (.ref c_InvalidText) (.ref c_Refused) = some false)
    (su_StoreError_InvalidText : PySem.W.subIn K (.ref c_InvalidText) (.ref c_StoreError) = some true)
    (su_Broken_InvalidPaper : PySem.W.subIn K (.ref c_InvalidPaper) (.ref c_Broken) = some false)
    (su_InvalidFilter_InvalidPaper : PySem.W.subIn K (.ref c_InvalidPaper) (.ref c_InvalidFilter) = some false)
    (su_InvalidItem_InvalidPaper : PySem.W.subIn K (.ref c_InvalidPaper) (.ref c_InvalidItem) = some false)
    (su_InvalidNumber_InvalidPaper : PySem.W.subIn K (.ref c_InvalidPaper) (.ref c_InvalidNumber) = some false)
    (su_InvalidPaper_InvalidPaper : PySem.W.subIn K (.ref c_InvalidPaper) (.ref c_InvalidPaper) = some true)
    (su_InvalidQuestion_InvalidPaper : PySem.W.subIn K (.ref c_InvalidPaper) (.ref c_InvalidQuestion) = some false)
    (su_InvalidText_InvalidPaper : PySem.W.subIn K (.ref c_InvalidPaper) (.ref c_InvalidText) = some false)
    (su_InvalidVector_InvalidPaper : PySem.W.subIn K (.ref c_InvalidPaper) (.ref c_InvalidVector) = some false)
    (su_Refused_InvalidPaper : PySem.W.subIn K (.ref c_InvalidPaper) (.ref c_Refused) = some false)
    (su_StoreError_InvalidPaper : PySem.W.subIn K (.ref c_InvalidPaper) (.ref c_StoreError) = some true)
    (su_Broken_InvalidNumber : PySem.W.subIn K (.ref c_InvalidNumber) (.ref c_Broken) = some false)
    (su_InvalidFilter_InvalidNumber : PySem.W.subIn K (.ref c_InvalidNumber) (.ref c_InvalidFilter) = some false)
    (su_InvalidItem_InvalidNumber : PySem.W.subIn K (.ref c_InvalidNumber) (.ref c_InvalidItem) = some false)
    (su_InvalidNumber_InvalidNumber : PySem.W.subIn K (.ref c_InvalidNumber) (.ref c_InvalidNumber) = some true)
    (su_InvalidPaper_InvalidNumber : PySem.W.subIn K (.ref c_InvalidNumber) (.ref c_InvalidPaper) = some false)
    (su_InvalidQuestion_InvalidNumber : PySem.W.subIn K (.ref c_InvalidNumber) (.ref c_InvalidQuestion) = some false)
    (su_InvalidText_InvalidNumber : PySem.W.subIn K (.ref c_InvalidNumber) (.ref c_InvalidText) = some false)
    (su_InvalidVector_InvalidNumber : PySem.W.subIn K (.ref c_InvalidNumber) (.ref c_InvalidVector) = some false)
    (su_Refused_InvalidNumber : PySem.W.subIn K (.ref c_InvalidNumber) (.ref c_Refused) = some false)
    (su_StoreError_InvalidNumber : PySem.W.subIn K (.ref c_InvalidNumber) (.ref c_StoreError) = some true)
    (su_Broken_Refused : PySem.W.subIn K (.ref c_Refused) (.ref c_Broken) = some false)
    (su_InvalidFilter_Refused : PySem.W.subIn K (.ref c_Refused) (.ref c_InvalidFilter) = some false)
    (su_InvalidItem_Refused : PySem.W.subIn K (.ref c_Refused) (.ref c_InvalidItem) = some false)
    (su_InvalidNumber_Refused : PySem.W.subIn K (.ref c_Refused) (.ref c_InvalidNumber) = some false)
    (su_InvalidPaper_Refused : PySem.W.subIn K (.ref c_Refused) (.ref c_InvalidPaper) = some false)
    (su_InvalidQuestion_Refused : PySem.W.subIn K (.ref c_Refused) (.ref c_InvalidQuestion) = some false)
    (su_InvalidText_Refused : PySem.W.subIn K (.ref c_Refused) (.ref c_InvalidText) = some false)
    (su_InvalidVector_Refused : PySem.W.subIn K (.ref c_Refused) (.ref c_InvalidVector) = some false)
    (su_Refused_Refused : PySem.W.subIn K (.ref c_Refused) (.ref c_Refused) = some true)
    (su_StoreError_Refused : PySem.W.subIn K (.ref c_Refused) (.ref c_StoreError) = some true)
    (su_Broken_Broken : PySem.W.subIn K (.ref c_Broken) (.ref c_Broken) = some true)
    (su_InvalidFilter_Broken : PySem.W.subIn K (.ref c_Broken) (.ref c_InvalidFilter) = some false)
    (su_InvalidItem_Broken : PySem.W.subIn K (.ref c_Broken) (.ref c_InvalidItem) = some false)
    (su_InvalidNumber_Broken : PySem.W.subIn K (.ref c_Broken) (.ref c_InvalidNumber) = some false)
    (su_InvalidPaper_Broken : PySem.W.subIn K (.ref c_Broken) (.ref c_InvalidPaper) = some false)
    (su_InvalidQuestion_Broken : PySem.W.subIn K (.ref c_Broken) (.ref c_InvalidQuestion) = some false)
    (su_InvalidText_Broken : PySem.W.subIn K (.ref c_Broken) (.ref c_InvalidText) = some false)
    (su_InvalidVector_Broken : PySem.W.subIn K (.ref c_Broken) (.ref c_InvalidVector) = some false)
    (su_Refused_Broken : PySem.W.subIn K (.ref c_Broken) (.ref c_Refused) = some false)
    (su_StoreError_Broken : PySem.W.subIn K (.ref c_Broken) (.ref c_StoreError) = some true)
    (hnO : PySem.W.specialIn K (.builtin "object.__class__") "__get__" = some (some (.builtin "getset_descriptor.__get__"))) (htO : PySem.W.takesIn K (.builtin "object.__class__") = some true)
    (z_ValueError : PySem.W.nsIn K mainGlobals "ValueError" = some none)
    (z_abs : PySem.W.nsIn K mainGlobals "abs" = some none)
    (z_all : PySem.W.nsIn K mainGlobals "all" = some none)
    (z_bool : PySem.W.nsIn K mainGlobals "bool" = some none)
    (z_enumerate : PySem.W.nsIn K mainGlobals "enumerate" = some none)
    (z_int : PySem.W.nsIn K mainGlobals "int" = some none)
    (z_isinstance : PySem.W.nsIn K mainGlobals "isinstance" = some none)
    (z_len : PySem.W.nsIn K mainGlobals "len" = some none)
    (z_list : PySem.W.nsIn K mainGlobals "list" = some none)
    (z_range : PySem.W.nsIn K mainGlobals "range" = some none)
    (z_repr : PySem.W.nsIn K mainGlobals "repr" = some none)
    (z_str : PySem.W.nsIn K mainGlobals "str" = some none)
    (z_tuple : PySem.W.nsIn K mainGlobals "tuple" = some none)
    (g_KINDS : PySem.W.nsIn K mainGlobals "KINDS" = some (some (.ref aKINDS))) (lk_KINDS : K.lookup aKINDS = some ⟨.type "tuple", odKINDS, .seq #[.str "square" tKINDS0, .str "sum" tKINDS1, .str "most" tKINDS2, .str "unlike" tKINDS3] nKINDS, slKINDS⟩)
    :
    ∃ fd : FuncData, (∀ (s : Shared) (v : Value), BindsTo s fd ⟨[v], []⟩ [("script", v)]) ∧ ∀ base : Heap, K.In base → base.Ns mainGlobals mg → FnG l.prog w K mg base 7 fa fd ["script"] (lift K F_law) := by
  have e := hfa.symm.trans (PySem.W.mg_of X G a12)
  cases e
  have T_ef : ∀ y C, ClsAt K y C → y ∈ errNames → ErrF K C := cls_all fun x hx => by
      simp only [errNames, List.mem_cons, List.not_mem_nil, or_false] at hx
      rcases hx with rfl | rfl | rfl | rfl | rfl | rfl | rfl | rfl | rfl | rfl
      · exact ⟨c_StoreError, n_StoreError, ⟨ga_StoreError, gg_StoreError, ec_StoreError, hd_StoreError⟩, ic_StoreError, ha_StoreError, hnO, htO, hm_StoreError⟩
      · exact ⟨c_InvalidVector, n_InvalidVector, ⟨ga_InvalidVector, gg_InvalidVector, ec_InvalidVector, hd_InvalidVector⟩, ic_InvalidVector, ha_InvalidVector, hnO, htO, hm_InvalidVector⟩
      · exact ⟨c_InvalidItem, n_InvalidItem, ⟨ga_InvalidItem, gg_InvalidItem, ec_InvalidItem, hd_InvalidItem⟩, ic_InvalidItem, ha_InvalidItem, hnO, htO, hm_InvalidItem⟩
      · exact ⟨c_InvalidFilter, n_InvalidFilter, ⟨ga_InvalidFilter, gg_InvalidFilter, ec_InvalidFilter, hd_InvalidFilter⟩, ic_InvalidFilter, ha_InvalidFilter, hnO, htO, hm_InvalidFilter⟩
      · exact ⟨c_InvalidQuestion, n_InvalidQuestion, ⟨ga_InvalidQuestion, gg_InvalidQuestion, ec_InvalidQuestion, hd_InvalidQuestion⟩, ic_InvalidQuestion, ha_InvalidQuestion, hnO, htO, hm_InvalidQuestion⟩
      · exact ⟨c_InvalidText, n_InvalidText, ⟨ga_InvalidText, gg_InvalidText, ec_InvalidText, hd_InvalidText⟩, ic_InvalidText, ha_InvalidText, hnO, htO, hm_InvalidText⟩
      · exact ⟨c_InvalidPaper, n_InvalidPaper, ⟨ga_InvalidPaper, gg_InvalidPaper, ec_InvalidPaper, hd_InvalidPaper⟩, ic_InvalidPaper, ha_InvalidPaper, hnO, htO, hm_InvalidPaper⟩
      · exact ⟨c_InvalidNumber, n_InvalidNumber, ⟨ga_InvalidNumber, gg_InvalidNumber, ec_InvalidNumber, hd_InvalidNumber⟩, ic_InvalidNumber, ha_InvalidNumber, hnO, htO, hm_InvalidNumber⟩
      · exact ⟨c_Refused, n_Refused, ⟨ga_Refused, gg_Refused, ec_Refused, hd_Refused⟩, ic_Refused, ha_Refused, hnO, htO, hm_Refused⟩
      · exact ⟨c_Broken, n_Broken, ⟨ga_Broken, gg_Broken, ec_Broken, hd_Broken⟩, ic_Broken, ha_Broken, hnO, htO, hm_Broken⟩
  have T_nf0 : ∀ y C, ClsAt K y C → y ∈ errNames → PySem.W.findIn K (.ref C) "at" = some none := cls_all fun x hx => by
      simp only [errNames, List.mem_cons, List.not_mem_nil, or_false] at hx
      rcases hx with rfl | rfl | rfl | rfl | rfl | rfl | rfl | rfl | rfl | rfl
      · exact ⟨c_StoreError, n_StoreError, nf0_StoreError⟩
      · exact ⟨c_InvalidVector, n_InvalidVector, nf0_InvalidVector⟩
      · exact ⟨c_InvalidItem, n_InvalidItem, nf0_InvalidItem⟩
      · exact ⟨c_InvalidFilter, n_InvalidFilter, nf0_InvalidFilter⟩
      · exact ⟨c_InvalidQuestion, n_InvalidQuestion, nf0_InvalidQuestion⟩
      · exact ⟨c_InvalidText, n_InvalidText, nf0_InvalidText⟩
      · exact ⟨c_InvalidPaper, n_InvalidPaper, nf0_InvalidPaper⟩
      · exact ⟨c_InvalidNumber, n_InvalidNumber, nf0_InvalidNumber⟩
      · exact ⟨c_Refused, n_Refused, nf0_Refused⟩
      · exact ⟨c_Broken, n_Broken, nf0_Broken⟩
  have T_nf1 : ∀ y C, ClsAt K y C → y ∈ errNames → PySem.W.findIn K (.ref C) "line" = some none := cls_all fun x hx => by
      simp only [errNames, List.mem_cons, List.not_mem_nil, or_false] at hx
      rcases hx with rfl | rfl | rfl | rfl | rfl | rfl | rfl | rfl | rfl | rfl
      · exact ⟨c_StoreError, n_StoreError, nf1_StoreError⟩
      · exact ⟨c_InvalidVector, n_InvalidVector, nf1_InvalidVector⟩
      · exact ⟨c_InvalidItem, n_InvalidItem, nf1_InvalidItem⟩
      · exact ⟨c_InvalidFilter, n_InvalidFilter, nf1_InvalidFilter⟩
      · exact ⟨c_InvalidQuestion, n_InvalidQuestion, nf1_InvalidQuestion⟩
      · exact ⟨c_InvalidText, n_InvalidText, nf1_InvalidText⟩
      · exact ⟨c_InvalidPaper, n_InvalidPaper, nf1_InvalidPaper⟩
      · exact ⟨c_InvalidNumber, n_InvalidNumber, nf1_InvalidNumber⟩
      · exact ⟨c_Refused, n_Refused, nf1_Refused⟩
      · exact ⟨c_Broken, n_Broken, nf1_Broken⟩
  have T_nf2 : ∀ y C, ClsAt K y C → y ∈ errNames → PySem.W.findIn K (.ref C) "word" = some none := cls_all fun x hx => by
      simp only [errNames, List.mem_cons, List.not_mem_nil, or_false] at hx
      rcases hx with rfl | rfl | rfl | rfl | rfl | rfl | rfl | rfl | rfl | rfl
      · exact ⟨c_StoreError, n_StoreError, nf2_StoreError⟩
      · exact ⟨c_InvalidVector, n_InvalidVector, nf2_InvalidVector⟩
      · exact ⟨c_InvalidItem, n_InvalidItem, nf2_InvalidItem⟩
      · exact ⟨c_InvalidFilter, n_InvalidFilter, nf2_InvalidFilter⟩
      · exact ⟨c_InvalidQuestion, n_InvalidQuestion, nf2_InvalidQuestion⟩
      · exact ⟨c_InvalidText, n_InvalidText, nf2_InvalidText⟩
      · exact ⟨c_InvalidPaper, n_InvalidPaper, nf2_InvalidPaper⟩
      · exact ⟨c_InvalidNumber, n_InvalidNumber, nf2_InvalidNumber⟩
      · exact ⟨c_Refused, n_Refused, nf2_Refused⟩
      · exact ⟨c_Broken, n_Broken, nf2_Broken⟩
  have T_ve : ∀ y C, ClsAt K y C → y ∈ errNames → PySem.W.kitOne K (.ref C) (.type "ValueError") = some true := cls_all fun x hx => by
      simp only [errNames, List.mem_cons, List.not_mem_nil, or_false] at hx
      rcases hx with rfl | rfl | rfl | rfl | rfl | rfl | rfl | rfl | rfl | rfl
      · exact ⟨c_StoreError, n_StoreError, kve_StoreError⟩
      · exact ⟨c_InvalidVector, n_InvalidVector, kve_InvalidVector⟩
      · exact ⟨c_InvalidItem, n_InvalidItem, kve_InvalidItem⟩
      · exact ⟨c_InvalidFilter, n_InvalidFilter, kve_InvalidFilter⟩
      · exact ⟨c_InvalidQuestion, n_InvalidQuestion, kve_InvalidQuestion⟩
      · exact ⟨c_InvalidText, n_InvalidText, kve_InvalidText⟩
      · exact ⟨c_InvalidPaper, n_InvalidPaper, kve_InvalidPaper⟩
      · exact ⟨c_InvalidNumber, n_InvalidNumber, kve_InvalidNumber⟩
      · exact ⟨c_Refused, n_Refused, kve_Refused⟩
      · exact ⟨c_Broken, n_Broken, kve_Broken⟩
  have T_hit_InvalidVector : ∃ c : Addr, mg "InvalidVector" = some (.ref c) ∧ Hits K (.ref c) tab_InvalidVector := ⟨c_InvalidVector, PySem.W.mg_of X G n_InvalidVector, hits_of (L := L_InvalidVector) fun p hx => by
      simp only [L_InvalidVector, List.mem_cons, List.not_mem_nil, or_false] at hx
      rcases hx with rfl | rfl | rfl | rfl | rfl | rfl | rfl | rfl | rfl | rfl
      · exact ⟨c_StoreError, n_StoreError, PySem.W.exm_ref ec_InvalidVector hd_InvalidVector tc_InvalidVector su_InvalidVector_StoreError⟩
      · exact ⟨c_InvalidVector, n_InvalidVector, PySem.W.exm_ref ec_InvalidVector hd_InvalidVector tc_InvalidVector su_InvalidVector_InvalidVector⟩
      · exact ⟨c_InvalidItem, n_InvalidItem, PySem.W.exm_ref ec_InvalidVector hd_InvalidVector tc_InvalidVector su_InvalidVector_InvalidItem⟩
      · exact ⟨c_InvalidFilter, n_InvalidFilter, PySem.W.exm_ref ec_InvalidVector hd_InvalidVector tc_InvalidVector su_InvalidVector_InvalidFilter⟩
      · exact ⟨c_InvalidQuestion, n_InvalidQuestion, PySem.W.exm_ref ec_InvalidVector hd_InvalidVector tc_InvalidVector su_InvalidVector_InvalidQuestion⟩
      · exact ⟨c_InvalidText, n_InvalidText, PySem.W.exm_ref ec_InvalidVector hd_InvalidVector tc_InvalidVector su_InvalidVector_InvalidText⟩
      · exact ⟨c_InvalidPaper, n_InvalidPaper, PySem.W.exm_ref ec_InvalidVector hd_InvalidVector tc_InvalidVector su_InvalidVector_InvalidPaper⟩
      · exact ⟨c_InvalidNumber, n_InvalidNumber, PySem.W.exm_ref ec_InvalidVector hd_InvalidVector tc_InvalidVector su_InvalidVector_InvalidNumber⟩
      · exact ⟨c_Refused, n_Refused, PySem.W.exm_ref ec_InvalidVector hd_InvalidVector tc_InvalidVector su_InvalidVector_Refused⟩
      · exact ⟨c_Broken, n_Broken, PySem.W.exm_ref ec_InvalidVector hd_InvalidVector tc_InvalidVector su_InvalidVector_Broken⟩⟩
  have T_is_Broken : ∃ c : Addr, mg "Broken" = some (.ref c) ∧ ∀ y C b, ClsAt K y C → tab_Broken y = some b → PySem.W.kitOne K (.ref C) (.ref c) = some b := ⟨c_Broken, PySem.W.mg_of X G n_Broken, kits_of (L := L_Broken) fun p hx => by
      simp only [L_Broken, List.mem_cons, List.not_mem_nil, or_false] at hx
      rcases hx with rfl | rfl | rfl | rfl | rfl | rfl | rfl | rfl | rfl | rfl
      · exact ⟨c_StoreError, n_StoreError, kit_of_exm (PySem.W.exm_ref ec_Broken hd_Broken tc_Broken su_Broken_StoreError) (fun e => by have e2 := Value.ref.inj (beq_iff_eq.mp e); rw [e2, su_Broken_Broken] at su_Broken_StoreError; cases su_Broken_StoreError)⟩
      · exact ⟨c_InvalidVector, n_InvalidVector, kit_of_exm (PySem.W.exm_ref ec_Broken hd_Broken tc_Broken su_Broken_InvalidVector) (fun e => by have e2 := Value.ref.inj (beq_iff_eq.mp e); rw [e2, su_Broken_Broken] at su_Broken_InvalidVector; cases su_Broken_InvalidVector)⟩
      · exact ⟨c_InvalidItem, n_InvalidItem, kit_of_exm (PySem.W.exm_ref ec_Broken hd_Broken tc_Broken su_Broken_InvalidItem) (fun e => by have e2 := Value.ref.inj (beq_iff_eq.mp e); rw [e2, su_Broken_Broken] at su_Broken_InvalidItem; cases su_Broken_InvalidItem)⟩
      · exact ⟨c_InvalidFilter, n_InvalidFilter, kit_of_exm (PySem.W.exm_ref ec_Broken hd_Broken tc_Broken su_Broken_InvalidFilter) (fun e => by have e2 := Value.ref.inj (beq_iff_eq.mp e); rw [e2, su_Broken_Broken] at su_Broken_InvalidFilter; cases su_Broken_InvalidFilter)⟩
      · exact ⟨c_InvalidQuestion, n_InvalidQuestion, kit_of_exm (PySem.W.exm_ref ec_Broken hd_Broken tc_Broken su_Broken_InvalidQuestion) (fun e => by have e2 := Value.ref.inj (beq_iff_eq.mp e); rw [e2, su_Broken_Broken] at su_Broken_InvalidQuestion; cases su_Broken_InvalidQuestion)⟩
      · exact ⟨c_InvalidText, n_InvalidText, kit_of_exm (PySem.W.exm_ref ec_Broken hd_Broken tc_Broken su_Broken_InvalidText) (fun e => by have e2 := Value.ref.inj (beq_iff_eq.mp e); rw [e2, su_Broken_Broken] at su_Broken_InvalidText; cases su_Broken_InvalidText)⟩
      · exact ⟨c_InvalidPaper, n_InvalidPaper, kit_of_exm (PySem.W.exm_ref ec_Broken hd_Broken tc_Broken su_Broken_InvalidPaper) (fun e => by have e2 := Value.ref.inj (beq_iff_eq.mp e); rw [e2, su_Broken_Broken] at su_Broken_InvalidPaper; cases su_Broken_InvalidPaper)⟩
      · exact ⟨c_InvalidNumber, n_InvalidNumber, kit_of_exm (PySem.W.exm_ref ec_Broken hd_Broken tc_Broken su_Broken_InvalidNumber) (fun e => by have e2 := Value.ref.inj (beq_iff_eq.mp e); rw [e2, su_Broken_Broken] at su_Broken_InvalidNumber; cases su_Broken_InvalidNumber)⟩
      · exact ⟨c_Refused, n_Refused, kit_of_exm (PySem.W.exm_ref ec_Broken hd_Broken tc_Broken su_Broken_Refused) (fun e => by have e2 := Value.ref.inj (beq_iff_eq.mp e); rw [e2, su_Broken_Broken] at su_Broken_Refused; cases su_Broken_Refused)⟩
      · exact ⟨c_Broken, n_Broken, kit_of_exm (PySem.W.exm_ref ec_Broken hd_Broken tc_Broken su_Broken_Broken) (fun _ => rfl)⟩⟩
  have T_is_InvalidFilter : ∃ c : Addr, mg "InvalidFilter" = some (.ref c) ∧ ∀ y C b, ClsAt K y C → tab_InvalidFilter y = some b → PySem.W.kitOne K (.ref C) (.ref c) = some b := ⟨c_InvalidFilter, PySem.W.mg_of X G n_InvalidFilter, kits_of (L := L_InvalidFilter) fun p hx => by
      simp only [L_InvalidFilter, List.mem_cons, List.not_mem_nil, or_false] at hx
      rcases hx with rfl | rfl | rfl | rfl | rfl | rfl | rfl | rfl | rfl | rfl
      · exact ⟨c_StoreError, n_StoreError, kit_of_exm (PySem.W.exm_ref ec_InvalidFilter hd_InvalidFilter tc_InvalidFilter su_InvalidFilter_StoreError) (fun e => by have e2 := Value.ref.inj (beq_iff_eq.mp e); rw [e2, su_InvalidFilter_InvalidFilter] at su_InvalidFilter_StoreError; cases su_InvalidFilter_StoreError)⟩
      · exact ⟨c_InvalidVector, n_InvalidVector, kit_of_exm (PySem.W.exm_ref ec_InvalidFilter hd_InvalidFilter tc_InvalidFilter su_InvalidFilter_InvalidVector) (fun e => by have e2 := Value.ref.inj (beq_iff_eq.mp e); rw [e2, su_InvalidFilter_InvalidFilter] at su_InvalidFilter_InvalidVector; cases su_InvalidFilter_InvalidVector)⟩
      · exact ⟨c_InvalidItem, n_InvalidItem, kit_of_exm (PySem.W.exm_ref ec_InvalidFilter hd_InvalidFilter tc_InvalidFilter su_InvalidFilter_InvalidItem) (fun e => by have e2 := Value.ref.inj (beq_iff_eq.mp e); rw [e2, su_InvalidFilter_InvalidFilter] at su_InvalidFilter_InvalidItem; cases su_InvalidFilter_InvalidItem)⟩
      · exact ⟨c_InvalidFilter, n_InvalidFilter, kit_of_exm (PySem.W.exm_ref ec_InvalidFilter hd_InvalidFilter tc_InvalidFilter su_InvalidFilter_InvalidFilter) (fun _ => rfl)⟩
      · exact ⟨c_InvalidQuestion, n_InvalidQuestion, kit_of_exm (PySem.W.exm_ref ec_InvalidFilter hd_InvalidFilter tc_InvalidFilter su_InvalidFilter_InvalidQuestion) (fun e => by have e2 := Value.ref.inj (beq_iff_eq.mp e); rw [e2, su_InvalidFilter_InvalidFilter] at su_InvalidFilter_InvalidQuestion; cases su_InvalidFilter_InvalidQuestion)⟩
      · exact ⟨c_InvalidText, n_InvalidText, kit_of_exm (PySem.W.exm_ref ec_InvalidFilter hd_InvalidFilter tc_InvalidFilter su_InvalidFilter_InvalidText) (fun e => by have e2 := Value.ref.inj (beq_iff_eq.mp e); rw [e2, su_InvalidFilter_InvalidFilter] at su_InvalidFilter_InvalidText; cases su_InvalidFilter_InvalidText)⟩
      · exact ⟨c_InvalidPaper, n_InvalidPaper, kit_of_exm (PySem.W.exm_ref ec_InvalidFilter hd_InvalidFilter tc_InvalidFilter su_InvalidFilter_InvalidPaper) (fun e => by have e2 := Value.ref.inj (beq_iff_eq.mp e); rw [e2, su_InvalidFilter_InvalidFilter] at su_InvalidFilter_InvalidPaper; cases su_InvalidFilter_InvalidPaper)⟩
      · exact ⟨c_InvalidNumber, n_InvalidNumber, kit_of_exm (PySem.W.exm_ref ec_InvalidFilter hd_InvalidFilter tc_InvalidFilter su_InvalidFilter_InvalidNumber) (fun e => by have e2 := Value.ref.inj (beq_iff_eq.mp e); rw [e2, su_InvalidFilter_InvalidFilter] at su_InvalidFilter_InvalidNumber; cases su_InvalidFilter_InvalidNumber)⟩
      · exact ⟨c_Refused, n_Refused, kit_of_exm (PySem.W.exm_ref ec_InvalidFilter hd_InvalidFilter tc_InvalidFilter su_InvalidFilter_Refused) (fun e => by have e2 := Value.ref.inj (beq_iff_eq.mp e); rw [e2, su_InvalidFilter_InvalidFilter] at su_InvalidFilter_Refused; cases su_InvalidFilter_Refused)⟩
      · exact ⟨c_Broken, n_Broken, kit_of_exm (PySem.W.exm_ref ec_InvalidFilter hd_InvalidFilter tc_InvalidFilter su_InvalidFilter_Broken) (fun e => by have e2 := Value.ref.inj (beq_iff_eq.mp e); rw [e2, su_InvalidFilter_InvalidFilter] at su_InvalidFilter_Broken; cases su_InvalidFilter_Broken)⟩⟩
  have T_is_InvalidItem : ∃ c : Addr, mg "InvalidItem" = some (.ref c) ∧ ∀ y C b, ClsAt K y C → tab_InvalidItem y = some b → PySem.W.kitOne K (.ref C) (.ref c) = some b := ⟨c_InvalidItem, PySem.W.mg_of X G n_InvalidItem, kits_of (L := L_InvalidItem) fun p hx => by
      simp only [L_InvalidItem, List.mem_cons, List.not_mem_nil, or_false] at hx
      rcases hx with rfl | rfl | rfl | rfl | rfl | rfl | rfl | rfl | rfl | rfl
      · exact ⟨c_StoreError, n_StoreError, kit_of_exm (PySem.W.exm_ref ec_InvalidItem hd_InvalidItem tc_InvalidItem su_InvalidItem_StoreError) (fun e => by have e2 := Value.ref.inj (beq_iff_eq.mp e); rw [e2, su_InvalidItem_InvalidItem] at su_InvalidItem_StoreError; cases su_InvalidItem_StoreError)⟩
      · exact ⟨c_InvalidVector, n_InvalidVector, kit_of_exm (PySem.W.exm_ref ec_InvalidItem hd_InvalidItem tc_InvalidItem su_InvalidItem_InvalidVector) (fun e => by have e2 := Value.ref.inj (beq_iff_eq.mp e); rw [e2, su_InvalidItem_InvalidItem] at su_InvalidItem_InvalidVector; cases su_InvalidItem_InvalidVector)⟩
      · exact ⟨c_InvalidItem, n_InvalidItem, kit_of_exm (PySem.W.exm_ref ec_InvalidItem hd_InvalidItem tc_InvalidItem su_InvalidItem_InvalidItem) (fun _ => rfl)⟩
      · exact ⟨c_InvalidFilter, n_InvalidFilter, kit_of_exm (PySem.W.exm_ref ec_InvalidItem hd_InvalidItem tc_InvalidItem su_InvalidItem_InvalidFilter) (fun e => by have e2 := Value.ref.inj (beq_iff_eq.mp e); rw [e2, su_InvalidItem_InvalidItem] at su_InvalidItem_InvalidFilter; cases su_InvalidItem_InvalidFilter)⟩
      · exact ⟨c_InvalidQuestion, n_InvalidQuestion, kit_of_exm (PySem.W.exm_ref ec_InvalidItem hd_InvalidItem tc_InvalidItem su_InvalidItem_InvalidQuestion) (fun e => by have e2 := Value.ref.inj (beq_iff_eq.mp e); rw [e2, su_InvalidItem_InvalidItem] at su_InvalidItem_InvalidQuestion; cases su_InvalidItem_InvalidQuestion)⟩
      · exact ⟨c_InvalidText, n_InvalidText, kit_of_exm (PySem.W.exm_ref ec_InvalidItem hd_InvalidItem tc_InvalidItem su_InvalidItem_InvalidText) (fun e => by have e2 := Value.ref.inj (beq_iff_eq.mp e); rw [e2, su_InvalidItem_InvalidItem] at su_InvalidItem_InvalidText; cases su_InvalidItem_InvalidText)⟩
      · exact ⟨c_InvalidPaper, n_InvalidPaper, kit_of_exm (PySem.W.exm_ref ec_InvalidItem hd_InvalidItem tc_InvalidItem su_InvalidItem_InvalidPaper) (fun e => by have e2 := Value.ref.inj (beq_iff_eq.mp e); rw [e2, su_InvalidItem_InvalidItem] at su_InvalidItem_InvalidPaper; cases su_InvalidItem_InvalidPaper)⟩
      · exact ⟨c_InvalidNumber, n_InvalidNumber, kit_of_exm (PySem.W.exm_ref ec_InvalidItem hd_InvalidItem tc_InvalidItem su_InvalidItem_InvalidNumber) (fun e => by have e2 := Value.ref.inj (beq_iff_eq.mp e); rw [e2, su_InvalidItem_InvalidItem] at su_InvalidItem_InvalidNumber; cases su_InvalidItem_InvalidNumber)⟩
      · exact ⟨c_Refused, n_Refused, kit_of_exm (PySem.W.exm_ref ec_InvalidItem hd_InvalidItem tc_InvalidItem su_InvalidItem_Refused) (fun e => by have e2 := Value.ref.inj (beq_iff_eq.mp e); rw [e2, su_InvalidItem_InvalidItem] at su_InvalidItem_Refused; cases su_InvalidItem_Refused)⟩
      · exact ⟨c_Broken, n_Broken, kit_of_exm (PySem.W.exm_ref ec_InvalidItem hd_InvalidItem tc_InvalidItem su_InvalidItem_Broken) (fun e => by have e2 := Value.ref.inj (beq_iff_eq.mp e); rw [e2, su_InvalidItem_InvalidItem] at su_InvalidItem_Broken; cases su_InvalidItem_Broken)⟩⟩
  have T_is_InvalidNumber : ∃ c : Addr, mg "InvalidNumber" = some (.ref c) ∧ ∀ y C b, ClsAt K y C → tab_InvalidNumber y = some b → PySem.W.kitOne K (.ref C) (.ref c) = some b := ⟨c_InvalidNumber, PySem.W.mg_of X G n_InvalidNumber, kits_of (L := L_InvalidNumber) fun p hx => by
      simp only [L_InvalidNumber, List.mem_cons, List.not_mem_nil, or_false] at hx
      rcases hx with rfl | rfl | rfl | rfl | rfl | rfl | rfl | rfl | rfl | rfl
      · exact ⟨c_StoreError, n_StoreError, kit_of_exm (PySem.W.exm_ref ec_InvalidNumber hd_InvalidNumber tc_InvalidNumber su_InvalidNumber_StoreError) (fun e => by have e2 := Value.ref.inj (beq_iff_eq.mp e); rw [e2, su_InvalidNumber_InvalidNumber] at su_InvalidNumber_StoreError; cases su_InvalidNumber_StoreError)⟩
      · exact ⟨c_InvalidVector, n_InvalidVector, kit_of_exm (PySem.W.exm_ref ec_InvalidNumber hd_InvalidNumber tc_InvalidNumber su_InvalidNumber_InvalidVector) (fun e => by have e2 := Value.ref.inj (beq_iff_eq.mp e); rw [e2, su_InvalidNumber_InvalidNumber] at su_InvalidNumber_InvalidVector; cases su_InvalidNumber_InvalidVector)⟩
      · exact ⟨c_InvalidItem, n_InvalidItem, kit_of_exm (PySem.W.exm_ref ec_InvalidNumber hd_InvalidNumber tc_InvalidNumber su_InvalidNumber_InvalidItem) (fun e => by have e2 := Value.ref.inj (beq_iff_eq.mp e); rw [e2, su_InvalidNumber_InvalidNumber] at su_InvalidNumber_InvalidItem; cases su_InvalidNumber_InvalidItem)⟩
      · exact ⟨c_InvalidFilter, n_InvalidFilter, kit_of_exm (PySem.W.exm_ref ec_InvalidNumber hd_InvalidNumber tc_InvalidNumber su_InvalidNumber_InvalidFilter) (fun e => by have e2 := Value.ref.inj (beq_iff_eq.mp e); rw [e2, su_InvalidNumber_InvalidNumber] at su_InvalidNumber_InvalidFilter; cases su_InvalidNumber_InvalidFilter)⟩
      · exact ⟨c_InvalidQuestion, n_InvalidQuestion, kit_of_exm (PySem.W.exm_ref ec_InvalidNumber hd_InvalidNumber tc_InvalidNumber su_InvalidNumber_InvalidQuestion) (fun e => by have e2 := Value.ref.inj (beq_iff_eq.mp e); rw [e2, su_InvalidNumber_InvalidNumber] at su_InvalidNumber_InvalidQuestion; cases su_InvalidNumber_InvalidQuestion)⟩
      · exact ⟨c_InvalidText, n_InvalidText, kit_of_exm (PySem.W.exm_ref ec_InvalidNumber hd_InvalidNumber tc_InvalidNumber su_InvalidNumber_InvalidText) (fun e => by have e2 := Value.ref.inj (beq_iff_eq.mp e); rw [e2, su_InvalidNumber_InvalidNumber] at su_InvalidNumber_InvalidText; cases su_InvalidNumber_InvalidText)⟩
      · exact ⟨c_InvalidPaper, n_InvalidPaper, kit_of_exm (PySem.W.exm_ref ec_InvalidNumber hd_InvalidNumber tc_InvalidNumber su_InvalidNumber_InvalidPaper) (fun e => by have e2 := Value.ref.inj (beq_iff_eq.mp e); rw [e2, su_InvalidNumber_InvalidNumber] at su_InvalidNumber_InvalidPaper; cases su_InvalidNumber_InvalidPaper)⟩
      · exact ⟨c_InvalidNumber, n_InvalidNumber, kit_of_exm (PySem.W.exm_ref ec_InvalidNumber hd_InvalidNumber tc_InvalidNumber su_InvalidNumber_InvalidNumber) (fun _ => rfl)⟩
      · exact ⟨c_Refused, n_Refused, kit_of_exm (PySem.W.exm_ref ec_InvalidNumber hd_InvalidNumber tc_InvalidNumber su_InvalidNumber_Refused) (fun e => by have e2 := Value.ref.inj (beq_iff_eq.mp e); rw [e2, su_InvalidNumber_InvalidNumber] at su_InvalidNumber_Refused; cases su_InvalidNumber_Refused)⟩
      · exact ⟨c_Broken, n_Broken, kit_of_exm (PySem.W.exm_ref ec_InvalidNumber hd_InvalidNumber tc_InvalidNumber su_InvalidNumber_Broken) (fun e => by have e2 := Value.ref.inj (beq_iff_eq.mp e); rw [e2, su_InvalidNumber_InvalidNumber] at su_InvalidNumber_Broken; cases su_InvalidNumber_Broken)⟩⟩
  have T_is_InvalidPaper : ∃ c : Addr, mg "InvalidPaper" = some (.ref c) ∧ ∀ y C b, ClsAt K y C → tab_InvalidPaper y = some b → PySem.W.kitOne K (.ref C) (.ref c) = some b := ⟨c_InvalidPaper, PySem.W.mg_of X G n_InvalidPaper, kits_of (L := L_InvalidPaper) fun p hx => by
      simp only [L_InvalidPaper, List.mem_cons, List.not_mem_nil, or_false] at hx
      rcases hx with rfl | rfl | rfl | rfl | rfl | rfl | rfl | rfl | rfl | rfl
      · exact ⟨c_StoreError, n_StoreError, kit_of_exm (PySem.W.exm_ref ec_InvalidPaper hd_InvalidPaper tc_InvalidPaper su_InvalidPaper_StoreError) (fun e => by have e2 := Value.ref.inj (beq_iff_eq.mp e); rw [e2, su_InvalidPaper_InvalidPaper] at su_InvalidPaper_StoreError; cases su_InvalidPaper_StoreError)⟩
      · exact ⟨c_InvalidVector, n_InvalidVector, kit_of_exm (PySem.W.exm_ref ec_InvalidPaper hd_InvalidPaper tc_InvalidPaper su_InvalidPaper_InvalidVector) (fun e => by have e2 := Value.ref.inj (beq_iff_eq.mp e); rw [e2, su_InvalidPaper_InvalidPaper] at su_InvalidPaper_InvalidVector; cases su_InvalidPaper_InvalidVector)⟩
      · exact ⟨c_InvalidItem, n_InvalidItem, kit_of_exm (PySem.W.exm_ref ec_InvalidPaper hd_InvalidPaper tc_InvalidPaper su_InvalidPaper_InvalidItem) (fun e => by have e2 := Value.ref.inj (beq_iff_eq.mp e); rw [e2, su_InvalidPaper_InvalidPaper] at su_InvalidPaper_InvalidItem; cases su_InvalidPaper_InvalidItem)⟩
      · exact ⟨c_InvalidFilter, n_InvalidFilter, kit_of_exm (PySem.W.exm_ref ec_InvalidPaper hd_InvalidPaper tc_InvalidPaper su_InvalidPaper_InvalidFilter) (fun e => by have e2 := Value.ref.inj (beq_iff_eq.mp e); rw [e2, su_InvalidPaper_InvalidPaper] at su_InvalidPaper_InvalidFilter; cases su_InvalidPaper_InvalidFilter)⟩
      · exact ⟨c_InvalidQuestion, n_InvalidQuestion, kit_of_exm (PySem.W.exm_ref ec_InvalidPaper hd_InvalidPaper tc_InvalidPaper su_InvalidPaper_InvalidQuestion) (fun e => by have e2 := Value.ref.inj (beq_iff_eq.mp e); rw [e2, su_InvalidPaper_InvalidPaper] at su_InvalidPaper_InvalidQuestion; cases su_InvalidPaper_InvalidQuestion)⟩
      · exact ⟨c_InvalidText, n_InvalidText, kit_of_exm (PySem.W.exm_ref ec_InvalidPaper hd_InvalidPaper tc_InvalidPaper su_InvalidPaper_InvalidText) (fun e => by have e2 := Value.ref.inj (beq_iff_eq.mp e); rw [e2, su_InvalidPaper_InvalidPaper] at su_InvalidPaper_InvalidText; cases su_InvalidPaper_InvalidText)⟩
      · exact ⟨c_InvalidPaper, n_InvalidPaper, kit_of_exm (PySem.W.exm_ref ec_InvalidPaper hd_InvalidPaper tc_InvalidPaper su_InvalidPaper_InvalidPaper) (fun _ => rfl)⟩
      · exact ⟨c_InvalidNumber, n_InvalidNumber, kit_of_exm (PySem.W.exm_ref ec_InvalidPaper hd_InvalidPaper tc_InvalidPaper su_InvalidPaper_InvalidNumber) (fun e => by have e2 := Value.ref.inj (beq_iff_eq.mp e); rw [e2, su_InvalidPaper_InvalidPaper] at su_InvalidPaper_InvalidNumber; cases su_InvalidPaper_InvalidNumber)⟩
      · exact ⟨c_Refused, n_Refused, kit_of_exm (PySem.W.exm_ref ec_InvalidPaper hd_InvalidPaper tc_InvalidPaper su_InvalidPaper_Refused) (fun e => by have e2 := Value.ref.inj (beq_iff_eq.mp e); rw [e2, su_InvalidPaper_InvalidPaper] at su_InvalidPaper_Refused; cases su_InvalidPaper_Refused)⟩
      · exact ⟨c_Broken, n_Broken, kit_of_exm (PySem.W.exm_ref ec_InvalidPaper hd_InvalidPaper tc_InvalidPaper su_InvalidPaper_Broken) (fun e => by have e2 := Value.ref.inj (beq_iff_eq.mp e); rw [e2, su_InvalidPaper_InvalidPaper] at su_InvalidPaper_Broken; cases su_InvalidPaper_Broken)⟩⟩
  have T_is_InvalidQuestion : ∃ c : Addr, mg "InvalidQuestion" = some (.ref c) ∧ ∀ y C b, ClsAt K y C → tab_InvalidQuestion y = some b → PySem.W.kitOne K (.ref C) (.ref c) = some b := ⟨c_InvalidQuestion, PySem.W.mg_of X G n_InvalidQuestion, kits_of (L := L_InvalidQuestion) fun p hx => by
      simp only [L_InvalidQuestion, List.mem_cons, List.not_mem_nil, or_false] at hx
      rcases hx with rfl | rfl | rfl | rfl | rfl | rfl | rfl | rfl | rfl | rfl
      · exact ⟨c_StoreError, n_StoreError, kit_of_exm (PySem.W.exm_ref ec_InvalidQuestion hd_InvalidQuestion tc_InvalidQuestion su_InvalidQuestion_StoreError) (fun e => by have e2 := Value.ref.inj (beq_iff_eq.mp e); rw [e2, su_InvalidQuestion_InvalidQuestion] at su_InvalidQuestion_StoreError; cases su_InvalidQuestion_StoreError)⟩
      · exact ⟨c_InvalidVector, n_InvalidVector, kit_of_exm (PySem.W.exm_ref ec_InvalidQuestion hd_InvalidQuestion tc_InvalidQuestion su_InvalidQuestion_InvalidVector) (fun e => by have e2 := Value.ref.inj (beq_iff_eq.mp e); rw [e2, su_InvalidQuestion_InvalidQuestion] at su_InvalidQuestion_InvalidVector; cases su_InvalidQuestion_InvalidVector)⟩
      · exact ⟨c_InvalidItem, n_InvalidItem, kit_of_exm (PySem.W.exm_ref ec_InvalidQuestion hd_InvalidQuestion tc_InvalidQuestion su_InvalidQuestion_InvalidItem) (fun e => by have e2 := Value.ref.inj (beq_iff_eq.mp e); rw [e2, su_InvalidQuestion_InvalidQuestion] at su_InvalidQuestion_InvalidItem; cases su_InvalidQuestion_InvalidItem)⟩
      · exact ⟨c_InvalidFilter, n_InvalidFilter, kit_of_exm (PySem.W.exm_ref ec_InvalidQuestion hd_InvalidQuestion tc_InvalidQuestion su_InvalidQuestion_InvalidFilter) (fun e => by have e2 := Value.ref.inj (beq_iff_eq.mp e); rw [e2, su_InvalidQuestion_InvalidQuestion] at su_InvalidQuestion_InvalidFilter; cases su_InvalidQuestion_InvalidFilter)⟩
      · exact ⟨c_InvalidQuestion, n_InvalidQuestion, kit_of_exm (PySem.W.exm_ref ec_InvalidQuestion hd_InvalidQuestion tc_InvalidQuestion su_InvalidQuestion_InvalidQuestion) (fun _ => rfl)⟩
      · exact ⟨c_InvalidText, n_InvalidText, kit_of_exm (PySem.W.exm_ref ec_InvalidQuestion hd_InvalidQuestion tc_InvalidQuestion su_InvalidQuestion_InvalidText) (fun e => by have e2 := Value.ref.inj (beq_iff_eq.mp e); rw [e2, su_InvalidQuestion_InvalidQuestion] at su_InvalidQuestion_InvalidText; cases su_InvalidQuestion_InvalidText)⟩
      · exact ⟨c_InvalidPaper, n_InvalidPaper, kit_of_exm (PySem.W.exm_ref ec_InvalidQuestion hd_InvalidQuestion tc_InvalidQuestion su_InvalidQuestion_InvalidPaper) (fun e => by have e2 := Value.ref.inj (beq_iff_eq.mp e); rw [e2, su_InvalidQuestion_InvalidQuestion] at su_InvalidQuestion_InvalidPaper; cases su_InvalidQuestion_InvalidPaper)⟩
      · exact ⟨c_InvalidNumber, n_InvalidNumber, kit_of_exm (PySem.W.exm_ref ec_InvalidQuestion hd_InvalidQuestion tc_InvalidQuestion su_InvalidQuestion_InvalidNumber) (fun e => by have e2 := Value.ref.inj (beq_iff_eq.mp e); rw [e2, su_InvalidQuestion_InvalidQuestion] at su_InvalidQuestion_InvalidNumber; cases su_InvalidQuestion_InvalidNumber)⟩
      · exact ⟨c_Refused, n_Refused, kit_of_exm (PySem.W.exm_ref ec_InvalidQuestion hd_InvalidQuestion tc_InvalidQuestion su_InvalidQuestion_Refused) (fun e => by have e2 := Value.ref.inj (beq_iff_eq.mp e); rw [e2, su_InvalidQuestion_InvalidQuestion] at su_InvalidQuestion_Refused; cases su_InvalidQuestion_Refused)⟩
      · exact ⟨c_Broken, n_Broken, kit_of_exm (PySem.W.exm_ref ec_InvalidQuestion hd_InvalidQuestion tc_InvalidQuestion su_InvalidQuestion_Broken) (fun e => by have e2 := Value.ref.inj (beq_iff_eq.mp e); rw [e2, su_InvalidQuestion_InvalidQuestion] at su_InvalidQuestion_Broken; cases su_InvalidQuestion_Broken)⟩⟩
  have T_is_InvalidText : ∃ c : Addr, mg "InvalidText" = some (.ref c) ∧ ∀ y C b, ClsAt K y C → tab_InvalidText y = some b → PySem.W.kitOne K (.ref C) (.ref c) = some b := ⟨c_InvalidText, PySem.W.mg_of X G n_InvalidText, kits_of (L := L_InvalidText) fun p hx => by
      simp only [L_InvalidText, List.mem_cons, List.not_mem_nil, or_false] at hx
      rcases hx with rfl | rfl | rfl | rfl | rfl | rfl | rfl | rfl | rfl | rfl
      · exact ⟨c_StoreError, n_StoreError, kit_of_exm (PySem.W.exm_ref ec_InvalidText hd_InvalidText tc_InvalidText su_InvalidText_StoreError) (fun e => by have e2 := Value.ref.inj (beq_iff_eq.mp e); rw [e2, su_InvalidText_InvalidText] at su_InvalidText_StoreError; cases su_InvalidText_StoreError)⟩
      · exact ⟨c_InvalidVector, n_InvalidVector, kit_of_exm (PySem.W.exm_ref ec_InvalidText hd_InvalidText tc_InvalidText su_InvalidText_InvalidVector) (fun e => by have e2 := Value.ref.inj (beq_iff_eq.mp e); rw [e2, su_InvalidText_InvalidText] at su_InvalidText_InvalidVector; cases su_InvalidText_InvalidVector)⟩
      · exact ⟨c_InvalidItem, n_InvalidItem, kit_of_exm (PySem.W.exm_ref ec_InvalidText hd_InvalidText tc_InvalidText su_InvalidText_InvalidItem) (fun e => by have e2 := Value.ref.inj (beq_iff_eq.mp e); rw [e2, su_InvalidText_InvalidText] at su_InvalidText_InvalidItem; cases su_InvalidText_InvalidItem)⟩
      · exact ⟨c_InvalidFilter, n_InvalidFilter, kit_of_exm (PySem.W.exm_ref ec_InvalidText hd_InvalidText tc_InvalidText su_InvalidText_InvalidFilter) (fun e => by have e2 := Value.ref.inj (beq_iff_eq.mp e); rw [e2, su_InvalidText_InvalidText] at su_InvalidText_InvalidFilter; cases su_InvalidText_InvalidFilter)⟩
      · exact ⟨c_InvalidQuestion, n_InvalidQuestion, kit_of_exm (PySem.W.exm_ref ec_InvalidText hd_InvalidText tc_InvalidText su_InvalidText_InvalidQuestion) (fun e => by have e2 := Value.ref.inj (beq_iff_eq.mp e); rw [e2, su_InvalidText_InvalidText] at su_InvalidText_InvalidQuestion; cases su_InvalidText_InvalidQuestion)⟩
      · exact ⟨c_InvalidText, n_InvalidText, kit_of_exm (PySem.W.exm_ref ec_InvalidText hd_InvalidText tc_InvalidText su_InvalidText_InvalidText) (fun _ => rfl)⟩
      · exact ⟨c_InvalidPaper, n_InvalidPaper, kit_of_exm (PySem.W.exm_ref ec_InvalidText hd_InvalidText tc_InvalidText su_InvalidText_InvalidPaper) (fun e => by have e2 := Value.ref.inj (beq_iff_eq.mp e); rw [e2, su_InvalidText_InvalidText] at su_InvalidText_InvalidPaper; cases su_InvalidText_InvalidPaper)⟩
      · exact ⟨c_InvalidNumber, n_InvalidNumber, kit_of_exm (PySem.W.exm_ref ec_InvalidText hd_InvalidText tc_InvalidText su_InvalidText_InvalidNumber) (fun e => by have e2 := Value.ref.inj (beq_iff_eq.mp e); rw [e2, su_InvalidText_InvalidText] at su_InvalidText_InvalidNumber; cases su_InvalidText_InvalidNumber)⟩
      · exact ⟨c_Refused, n_Refused, kit_of_exm (PySem.W.exm_ref ec_InvalidText hd_InvalidText tc_InvalidText su_InvalidText_Refused) (fun e => by have e2 := Value.ref.inj (beq_iff_eq.mp e); rw [e2, su_InvalidText_InvalidText] at su_InvalidText_Refused; cases su_InvalidText_Refused)⟩
      · exact ⟨c_Broken, n_Broken, kit_of_exm (PySem.W.exm_ref ec_InvalidText hd_InvalidText tc_InvalidText su_InvalidText_Broken) (fun e => by have e2 := Value.ref.inj (beq_iff_eq.mp e); rw [e2, su_InvalidText_InvalidText] at su_InvalidText_Broken; cases su_InvalidText_Broken)⟩⟩
  have T_is_InvalidVector : ∃ c : Addr, mg "InvalidVector" = some (.ref c) ∧ ∀ y C b, ClsAt K y C → tab_InvalidVector y = some b → PySem.W.kitOne K (.ref C) (.ref c) = some b := ⟨c_InvalidVector, PySem.W.mg_of X G n_InvalidVector, kits_of (L := L_InvalidVector) fun p hx => by
      simp only [L_InvalidVector, List.mem_cons, List.not_mem_nil, or_false] at hx
      rcases hx with rfl | rfl | rfl | rfl | rfl | rfl | rfl | rfl | rfl | rfl
      · exact ⟨c_StoreError, n_StoreError, kit_of_exm (PySem.W.exm_ref ec_InvalidVector hd_InvalidVector tc_InvalidVector su_InvalidVector_StoreError) (fun e => by have e2 := Value.ref.inj (beq_iff_eq.mp e); rw [e2, su_InvalidVector_InvalidVector] at su_InvalidVector_StoreError; cases su_InvalidVector_StoreError)⟩
      · exact ⟨c_InvalidVector, n_InvalidVector, kit_of_exm (PySem.W.exm_ref ec_InvalidVector hd_InvalidVector tc_InvalidVector su_InvalidVector_InvalidVector) (fun _ => rfl)⟩
      · exact ⟨c_InvalidItem, n_InvalidItem, kit_of_exm (PySem.W.exm_ref ec_InvalidVector hd_InvalidVector tc_InvalidVector su_InvalidVector_InvalidItem) (fun e => by have e2 := Value.ref.inj (beq_iff_eq.mp e); rw [e2, su_InvalidVector_InvalidVector] at su_InvalidVector_InvalidItem; cases su_InvalidVector_InvalidItem)⟩
      · exact ⟨c_InvalidFilter, n_InvalidFilter, kit_of_exm (PySem.W.exm_ref ec_InvalidVector hd_InvalidVector tc_InvalidVector su_InvalidVector_InvalidFilter) (fun e => by have e2 := Value.ref.inj (beq_iff_eq.mp e); rw [e2, su_InvalidVector_InvalidVector] at su_InvalidVector_InvalidFilter; cases su_InvalidVector_InvalidFilter)⟩
      · exact ⟨c_InvalidQuestion, n_InvalidQuestion, kit_of_exm (PySem.W.exm_ref ec_InvalidVector hd_InvalidVector tc_InvalidVector su_InvalidVector_InvalidQuestion) (fun e => by have e2 := Value.ref.inj (beq_iff_eq.mp e); rw [e2, su_InvalidVector_InvalidVector] at su_InvalidVector_InvalidQuestion; cases su_InvalidVector_InvalidQuestion)⟩
      · exact ⟨c_InvalidText, n_InvalidText, kit_of_exm (PySem.W.exm_ref ec_InvalidVector hd_InvalidVector tc_InvalidVector su_InvalidVector_InvalidText) (fun e => by have e2 := Value.ref.inj (beq_iff_eq.mp e); rw [e2, su_InvalidVector_InvalidVector] at su_InvalidVector_InvalidText; cases su_InvalidVector_InvalidText)⟩
      · exact ⟨c_InvalidPaper, n_InvalidPaper, kit_of_exm (PySem.W.exm_ref ec_InvalidVector hd_InvalidVector tc_InvalidVector su_InvalidVector_InvalidPaper) (fun e => by have e2 := Value.ref.inj (beq_iff_eq.mp e); rw [e2, su_InvalidVector_InvalidVector] at su_InvalidVector_InvalidPaper; cases su_InvalidVector_InvalidPaper)⟩
      · exact ⟨c_InvalidNumber, n_InvalidNumber, kit_of_exm (PySem.W.exm_ref ec_InvalidVector hd_InvalidVector tc_InvalidVector su_InvalidVector_InvalidNumber) (fun e => by have e2 := Value.ref.inj (beq_iff_eq.mp e); rw [e2, su_InvalidVector_InvalidVector] at su_InvalidVector_InvalidNumber; cases su_InvalidVector_InvalidNumber)⟩
      · exact ⟨c_Refused, n_Refused, kit_of_exm (PySem.W.exm_ref ec_InvalidVector hd_InvalidVector tc_InvalidVector su_InvalidVector_Refused) (fun e => by have e2 := Value.ref.inj (beq_iff_eq.mp e); rw [e2, su_InvalidVector_InvalidVector] at su_InvalidVector_Refused; cases su_InvalidVector_Refused)⟩
      · exact ⟨c_Broken, n_Broken, kit_of_exm (PySem.W.exm_ref ec_InvalidVector hd_InvalidVector tc_InvalidVector su_InvalidVector_Broken) (fun e => by have e2 := Value.ref.inj (beq_iff_eq.mp e); rw [e2, su_InvalidVector_InvalidVector] at su_InvalidVector_Broken; cases su_InvalidVector_Broken)⟩⟩
  have T_is_Refused : ∃ c : Addr, mg "Refused" = some (.ref c) ∧ ∀ y C b, ClsAt K y C → tab_Refused y = some b → PySem.W.kitOne K (.ref C) (.ref c) = some b := ⟨c_Refused, PySem.W.mg_of X G n_Refused, kits_of (L := L_Refused) fun p hx => by
      simp only [L_Refused, List.mem_cons, List.not_mem_nil, or_false] at hx
      rcases hx with rfl | rfl | rfl | rfl | rfl | rfl | rfl | rfl | rfl | rfl
      · exact ⟨c_StoreError, n_StoreError, kit_of_exm (PySem.W.exm_ref ec_Refused hd_Refused tc_Refused su_Refused_StoreError) (fun e => by have e2 := Value.ref.inj (beq_iff_eq.mp e); rw [e2, su_Refused_Refused] at su_Refused_StoreError; cases su_Refused_StoreError)⟩
      · exact ⟨c_InvalidVector, n_InvalidVector, kit_of_exm (PySem.W.exm_ref ec_Refused hd_Refused tc_Refused su_Refused_InvalidVector) (fun e => by have e2 := Value.ref.inj (beq_iff_eq.mp e); rw [e2, su_Refused_Refused] at su_Refused_InvalidVector; cases su_Refused_InvalidVector)⟩
      · exact ⟨c_InvalidItem, n_InvalidItem, kit_of_exm (PySem.W.exm_ref ec_Refused hd_Refused tc_Refused su_Refused_InvalidItem) (fun e => by have e2 := Value.ref.inj (beq_iff_eq.mp e); rw [e2, su_Refused_Refused] at su_Refused_InvalidItem; cases su_Refused_InvalidItem)⟩
      · exact ⟨c_InvalidFilter, n_InvalidFilter, kit_of_exm (PySem.W.exm_ref ec_Refused hd_Refused tc_Refused su_Refused_InvalidFilter) (fun e => by have e2 := Value.ref.inj (beq_iff_eq.mp e); rw [e2, su_Refused_Refused] at su_Refused_InvalidFilter; cases su_Refused_InvalidFilter)⟩
      · exact ⟨c_InvalidQuestion, n_InvalidQuestion, kit_of_exm (PySem.W.exm_ref ec_Refused hd_Refused tc_Refused su_Refused_InvalidQuestion) (fun e => by have e2 := Value.ref.inj (beq_iff_eq.mp e); rw [e2, su_Refused_Refused] at su_Refused_InvalidQuestion; cases su_Refused_InvalidQuestion)⟩
      · exact ⟨c_InvalidText, n_InvalidText, kit_of_exm (PySem.W.exm_ref ec_Refused hd_Refused tc_Refused su_Refused_InvalidText) (fun e => by have e2 := Value.ref.inj (beq_iff_eq.mp e); rw [e2, su_Refused_Refused] at su_Refused_InvalidText; cases su_Refused_InvalidText)⟩
      · exact ⟨c_InvalidPaper, n_InvalidPaper, kit_of_exm (PySem.W.exm_ref ec_Refused hd_Refused tc_Refused su_Refused_InvalidPaper) (fun e => by have e2 := Value.ref.inj (beq_iff_eq.mp e); rw [e2, su_Refused_Refused] at su_Refused_InvalidPaper; cases su_Refused_InvalidPaper)⟩
      · exact ⟨c_InvalidNumber, n_InvalidNumber, kit_of_exm (PySem.W.exm_ref ec_Refused hd_Refused tc_Refused su_Refused_InvalidNumber) (fun e => by have e2 := Value.ref.inj (beq_iff_eq.mp e); rw [e2, su_Refused_Refused] at su_Refused_InvalidNumber; cases su_Refused_InvalidNumber)⟩
      · exact ⟨c_Refused, n_Refused, kit_of_exm (PySem.W.exm_ref ec_Refused hd_Refused tc_Refused su_Refused_Refused) (fun _ => rfl)⟩
      · exact ⟨c_Broken, n_Broken, kit_of_exm (PySem.W.exm_ref ec_Refused hd_Refused tc_Refused su_Refused_Broken) (fun e => by have e2 := Value.ref.inj (beq_iff_eq.mp e); rw [e2, su_Refused_Refused] at su_Refused_Broken; cases su_Refused_Broken)⟩⟩
  have T_is_StoreError : ∃ c : Addr, mg "StoreError" = some (.ref c) ∧ ∀ y C b, ClsAt K y C → tab_StoreError y = some b → PySem.W.kitOne K (.ref C) (.ref c) = some b := ⟨c_StoreError, PySem.W.mg_of X G n_StoreError, kits_of (L := L_StoreError) fun p hx => by
      simp only [L_StoreError, List.mem_cons, List.not_mem_nil, or_false] at hx
      rcases hx with rfl | rfl | rfl | rfl | rfl | rfl | rfl | rfl | rfl | rfl
      · exact ⟨c_StoreError, n_StoreError, kit_of_exm (PySem.W.exm_ref ec_StoreError hd_StoreError tc_StoreError su_StoreError_StoreError) (fun _ => rfl)⟩
      · exact ⟨c_InvalidVector, n_InvalidVector, kit_of_exm (PySem.W.exm_ref ec_StoreError hd_StoreError tc_StoreError su_StoreError_InvalidVector) (fun _ => rfl)⟩
      · exact ⟨c_InvalidItem, n_InvalidItem, kit_of_exm (PySem.W.exm_ref ec_StoreError hd_StoreError tc_StoreError su_StoreError_InvalidItem) (fun _ => rfl)⟩
      · exact ⟨c_InvalidFilter, n_InvalidFilter, kit_of_exm (PySem.W.exm_ref ec_StoreError hd_StoreError tc_StoreError su_StoreError_InvalidFilter) (fun _ => rfl)⟩
      · exact ⟨c_InvalidQuestion, n_InvalidQuestion, kit_of_exm (PySem.W.exm_ref ec_StoreError hd_StoreError tc_StoreError su_StoreError_InvalidQuestion) (fun _ => rfl)⟩
      · exact ⟨c_InvalidText, n_InvalidText, kit_of_exm (PySem.W.exm_ref ec_StoreError hd_StoreError tc_StoreError su_StoreError_InvalidText) (fun _ => rfl)⟩
      · exact ⟨c_InvalidPaper, n_InvalidPaper, kit_of_exm (PySem.W.exm_ref ec_StoreError hd_StoreError tc_StoreError su_StoreError_InvalidPaper) (fun _ => rfl)⟩
      · exact ⟨c_InvalidNumber, n_InvalidNumber, kit_of_exm (PySem.W.exm_ref ec_StoreError hd_StoreError tc_StoreError su_StoreError_InvalidNumber) (fun _ => rfl)⟩
      · exact ⟨c_Refused, n_Refused, kit_of_exm (PySem.W.exm_ref ec_StoreError hd_StoreError tc_StoreError su_StoreError_Refused) (fun _ => rfl)⟩
      · exact ⟨c_Broken, n_Broken, kit_of_exm (PySem.W.exm_ref ec_StoreError hd_StoreError tc_StoreError su_StoreError_Broken) (fun _ => rfl)⟩⟩
  have T : Txt K mg aKINDS := ⟨PySem.W.mg_none_of X G z_ValueError, PySem.W.mg_none_of X G z_abs, PySem.W.mg_none_of X G z_all, PySem.W.mg_none_of X G z_bool, PySem.W.mg_none_of X G z_enumerate, PySem.W.mg_none_of X G z_int, PySem.W.mg_none_of X G z_isinstance, PySem.W.mg_none_of X G z_len, PySem.W.mg_none_of X G z_list, PySem.W.mg_none_of X G z_range, PySem.W.mg_none_of X G z_repr, PySem.W.mg_none_of X G z_str, PySem.W.mg_none_of X G z_tuple, T_ef, T_nf0, T_nf1, T_nf2, T_ve, T_hit_InvalidVector, T_is_Broken, T_is_InvalidFilter, T_is_InvalidItem, T_is_InvalidNumber, T_is_InvalidPaper, T_is_InvalidQuestion, T_is_InvalidText, T_is_InvalidVector, T_is_Refused, T_is_StoreError, PySem.W.mg_of X G g_KINDS, fun H => .tup (vs := [.str "square", .str "sum", .str "most", .str "unlike"]) (.inr ⟨_, _, _, lk_KINDS, rfl, rfl, (by show 4 ≤ sizeLine; decide), (.cons ⟨_, rfl⟩ (.cons ⟨_, rfl⟩ (.cons ⟨_, rfl⟩ (.cons ⟨_, rfl⟩ (.nil)))))⟩) (.cons (.str _) (.cons (.str _) (.cons (.str _) (.cons (.str _) (.nil)))))⟩
  have F_Broken := fun_mk (st := i_Broken) li_Broken cc_Broken ki_Broken
  have F_InvalidFilter := fun_mk (st := i_InvalidFilter) li_InvalidFilter cc_InvalidFilter ki_InvalidFilter
  have F_InvalidItem := fun_mk (st := i_InvalidItem) li_InvalidItem cc_InvalidItem ki_InvalidItem
  have F_InvalidNumber := fun_mk (st := i_InvalidNumber) li_InvalidNumber cc_InvalidNumber ki_InvalidNumber
  have F_InvalidPaper := fun_mk (st := i_InvalidPaper) li_InvalidPaper cc_InvalidPaper ki_InvalidPaper
  have F_InvalidQuestion := fun_mk (st := i_InvalidQuestion) li_InvalidQuestion cc_InvalidQuestion ki_InvalidQuestion
  have F_InvalidText := fun_mk (st := i_InvalidText) li_InvalidText cc_InvalidText ki_InvalidText
  have F_InvalidVector := fun_mk (st := i_InvalidVector) li_InvalidVector cc_InvalidVector ki_InvalidVector
  have F_Refused := fun_mk (st := i_Refused) li_Refused cc_Refused ki_Refused
  refine ⟨PySem.W.fnOf "law" "law" (defArgs s_law) (defBody s_law) (defScope s_law) .none kV12 dc12 pm12 an12 cd12 ct12, fun s v => .of_eq rfl, fun base KB NB => ?_⟩
  have h_Broken : Err l.prog w K mg base 1 "Broken" ["self", "word"] ["word"] := ⟨c_Broken, f_Broken, _, n_Broken, PySem.W.mg_of X G n_Broken, ⟨⟨nm_Broken, q_Broken, N_Broken, bs_Broken, _, sn_Broken, sub_Broken, ab_Broken, col_Broken, dd_Broken, m0_Broken, m1_Broken, m2_Broken, m3_Broken, m5_Broken, x_Broken, by rfl⟩, sa_Broken, ec_Broken, tc_Broken, kc_Broken⟩, ⟨ga_Broken, gg_Broken, ec_Broken, hd_Broken⟩, gi_Broken, ti_Broken, (fun f hf => by
      simp only [List.mem_cons, List.not_mem_nil, or_false] at hf
      rcases hf with rfl
      · exact nf2_Broken), ini_Broken F_Broken, F_Broken.binds fun _ _ _ _ _ _ us hl => match us, hl with | [_, _], _ => rfl⟩
  have h_InvalidFilter : Err l.prog w K mg base 1 "InvalidFilter" ["self", "at"] ["at"] := ⟨c_InvalidFilter, f_InvalidFilter, _, n_InvalidFilter, PySem.W.mg_of X G n_InvalidFilter, ⟨⟨nm_InvalidFilter, q_InvalidFilter, N_InvalidFilter, bs_InvalidFilter, _, sn_InvalidFilter, sub_InvalidFilter, ab_InvalidFilter, col_InvalidFilter, dd_InvalidFilter, m0_InvalidFilter, m1_InvalidFilter, m2_InvalidFilter, m3_InvalidFilter, m5_InvalidFilter, x_InvalidFilter, by rfl⟩, sa_InvalidFilter, ec_InvalidFilter, tc_InvalidFilter, kc_InvalidFilter⟩, ⟨ga_InvalidFilter, gg_InvalidFilter, ec_InvalidFilter, hd_InvalidFilter⟩, gi_InvalidFilter, ti_InvalidFilter, (fun f hf => by
      simp only [List.mem_cons, List.not_mem_nil, or_false] at hf
      rcases hf with rfl
      · exact nf0_InvalidFilter), ini_InvalidFilter F_InvalidFilter, F_InvalidFilter.binds fun _ _ _ _ _ _ us hl => match us, hl with | [_, _], _ => rfl⟩
  have h_InvalidItem : Err l.prog w K mg base 1 "InvalidItem" ["self", "at"] ["at"] := ⟨c_InvalidItem, f_InvalidItem, _, n_InvalidItem, PySem.W.mg_of X G n_InvalidItem, ⟨⟨nm_InvalidItem, q_InvalidItem, N_InvalidItem, bs_InvalidItem, _, sn_InvalidItem, sub_InvalidItem, ab_InvalidItem, col_InvalidItem, dd_InvalidItem, m0_InvalidItem, m1_InvalidItem, m2_InvalidItem, m3_InvalidItem, m5_InvalidItem, x_InvalidItem, by rfl⟩, sa_InvalidItem, ec_InvalidItem, tc_InvalidItem, kc_InvalidItem⟩, ⟨ga_InvalidItem, gg_InvalidItem, ec_InvalidItem, hd_InvalidItem⟩, gi_InvalidItem, ti_InvalidItem, (fun f hf => by
      simp only [List.mem_cons, List.not_mem_nil, or_false] at hf
      rcases hf with rfl
      · exact nf0_InvalidItem), ini_InvalidItem F_InvalidItem, F_InvalidItem.binds fun _ _ _ _ _ _ us hl => match us, hl with | [_, _], _ => rfl⟩
  have h_InvalidNumber : Err l.prog w K mg base 1 "InvalidNumber" ["self", "word"] ["word"] := ⟨c_InvalidNumber, f_InvalidNumber, _, n_InvalidNumber, PySem.W.mg_of X G n_InvalidNumber, ⟨⟨nm_InvalidNumber, q_InvalidNumber, N_InvalidNumber, bs_InvalidNumber, _, sn_InvalidNumber, sub_InvalidNumber, ab_InvalidNumber, col_InvalidNumber, dd_InvalidNumber, m0_InvalidNumber, m1_InvalidNumber, m2_InvalidNumber, m3_InvalidNumber, m5_InvalidNumber, x_InvalidNumber, by rfl⟩, sa_InvalidNumber, ec_InvalidNumber, tc_InvalidNumber, kc_InvalidNumber⟩, ⟨ga_InvalidNumber, gg_InvalidNumber, ec_InvalidNumber, hd_InvalidNumber⟩, gi_InvalidNumber, ti_InvalidNumber, (fun f hf => by
      simp only [List.mem_cons, List.not_mem_nil, or_false] at hf
      rcases hf with rfl
      · exact nf2_InvalidNumber), ini_InvalidNumber F_InvalidNumber, F_InvalidNumber.binds fun _ _ _ _ _ _ us hl => match us, hl with | [_, _], _ => rfl⟩
  have h_InvalidPaper : Err l.prog w K mg base 1 "InvalidPaper" ["self", "at"] ["at"] := ⟨c_InvalidPaper, f_InvalidPaper, _, n_InvalidPaper, PySem.W.mg_of X G n_InvalidPaper, ⟨⟨nm_InvalidPaper, q_InvalidPaper, N_InvalidPaper, bs_InvalidPaper, _, sn_InvalidPaper, sub_InvalidPaper, ab_InvalidPaper, col_InvalidPaper, dd_InvalidPaper, m0_InvalidPaper, m1_InvalidPaper, m2_InvalidPaper, m3_InvalidPaper, m5_InvalidPaper, x_InvalidPaper, by rfl⟩, sa_InvalidPaper, ec_InvalidPaper, tc_InvalidPaper, kc_InvalidPaper⟩, ⟨ga_InvalidPaper, gg_InvalidPaper, ec_InvalidPaper, hd_InvalidPaper⟩, gi_InvalidPaper, ti_InvalidPaper, (fun f hf => by
      simp only [List.mem_cons, List.not_mem_nil, or_false] at hf
      rcases hf with rfl
      · exact nf0_InvalidPaper), ini_InvalidPaper F_InvalidPaper, F_InvalidPaper.binds fun _ _ _ _ _ _ us hl => match us, hl with | [_, _], _ => rfl⟩
  have h_InvalidQuestion : Err l.prog w K mg base 1 "InvalidQuestion" ["self", "at"] ["at"] := ⟨c_InvalidQuestion, f_InvalidQuestion, _, n_InvalidQuestion, PySem.W.mg_of X G n_InvalidQuestion, ⟨⟨nm_InvalidQuestion, q_InvalidQuestion, N_InvalidQuestion, bs_InvalidQuestion, _, sn_InvalidQuestion, sub_InvalidQuestion, ab_InvalidQuestion, col_InvalidQuestion, dd_InvalidQuestion, m0_InvalidQuestion, m1_InvalidQuestion, m2_InvalidQuestion, m3_InvalidQuestion, m5_InvalidQuestion, x_InvalidQuestion, by rfl⟩, sa_InvalidQuestion, ec_InvalidQuestion, tc_InvalidQuestion, kc_InvalidQuestion⟩, ⟨ga_InvalidQuestion, gg_InvalidQuestion, ec_InvalidQuestion, hd_InvalidQuestion⟩, gi_InvalidQuestion, ti_InvalidQuestion, (fun f hf => by
      simp only [List.mem_cons, List.not_mem_nil, or_false] at hf
      rcases hf with rfl
      · exact nf0_InvalidQuestion), ini_InvalidQuestion F_InvalidQuestion, F_InvalidQuestion.binds fun _ _ _ _ _ _ us hl => match us, hl with | [_, _], _ => rfl⟩
  have h_InvalidText : Err l.prog w K mg base 1 "InvalidText" ["self", "line", "at"] ["line", "at"] := ⟨c_InvalidText, f_InvalidText, _, n_InvalidText, PySem.W.mg_of X G n_InvalidText, ⟨⟨nm_InvalidText, q_InvalidText, N_InvalidText, bs_InvalidText, _, sn_InvalidText, sub_InvalidText, ab_InvalidText, col_InvalidText, dd_InvalidText, m0_InvalidText, m1_InvalidText, m2_InvalidText, m3_InvalidText, m5_InvalidText, x_InvalidText, by rfl⟩, sa_InvalidText, ec_InvalidText, tc_InvalidText, kc_InvalidText⟩, ⟨ga_InvalidText, gg_InvalidText, ec_InvalidText, hd_InvalidText⟩, gi_InvalidText, ti_InvalidText, (fun f hf => by
      simp only [List.mem_cons, List.not_mem_nil, or_false] at hf
      rcases hf with rfl | rfl
      · exact nf1_InvalidText
      · exact nf0_InvalidText), ini_InvalidText F_InvalidText, F_InvalidText.binds fun _ _ _ _ _ _ us hl => match us, hl with | [_, _, _], _ => rfl⟩
  have h_InvalidVector : Err l.prog w K mg base 1 "InvalidVector" ["self", "at"] ["at"] := ⟨c_InvalidVector, f_InvalidVector, _, n_InvalidVector, PySem.W.mg_of X G n_InvalidVector, ⟨⟨nm_InvalidVector, q_InvalidVector, N_InvalidVector, bs_InvalidVector, _, sn_InvalidVector, sub_InvalidVector, ab_InvalidVector, col_InvalidVector, dd_InvalidVector, m0_InvalidVector, m1_InvalidVector, m2_InvalidVector, m3_InvalidVector, m5_InvalidVector, x_InvalidVector, by rfl⟩, sa_InvalidVector, ec_InvalidVector, tc_InvalidVector, kc_InvalidVector⟩, ⟨ga_InvalidVector, gg_InvalidVector, ec_InvalidVector, hd_InvalidVector⟩, gi_InvalidVector, ti_InvalidVector, (fun f hf => by
      simp only [List.mem_cons, List.not_mem_nil, or_false] at hf
      rcases hf with rfl
      · exact nf0_InvalidVector), ini_InvalidVector F_InvalidVector, F_InvalidVector.binds fun _ _ _ _ _ _ us hl => match us, hl with | [_, _], _ => rfl⟩
  have h_Refused : Err l.prog w K mg base 1 "Refused" ["self", "word"] ["word"] := ⟨c_Refused, f_Refused, _, n_Refused, PySem.W.mg_of X G n_Refused, ⟨⟨nm_Refused, q_Refused, N_Refused, bs_Refused, _, sn_Refused, sub_Refused, ab_Refused, col_Refused, dd_Refused, m0_Refused, m1_Refused, m2_Refused, m3_Refused, m5_Refused, x_Refused, by rfl⟩, sa_Refused, ec_Refused, tc_Refused, kc_Refused⟩, ⟨ga_Refused, gg_Refused, ec_Refused, hd_Refused⟩, gi_Refused, ti_Refused, (fun f hf => by
      simp only [List.mem_cons, List.not_mem_nil, or_false] at hf
      rcases hf with rfl
      · exact nf2_Refused), ini_Refused F_Refused, F_Refused.binds fun _ _ _ _ _ _ us hl => match us, hl with | [_, _], _ => rfl⟩
  have v_Broken : ErrV l.prog w K mg base 1 "Broken" "Broken.__init__" i_Broken ["self", "word"] ["word"] := ⟨c_Broken, f_Broken, _, n_Broken, PySem.W.mg_of X G n_Broken, ⟨⟨nm_Broken, q_Broken, N_Broken, bs_Broken, _, sn_Broken, sub_Broken, ab_Broken, col_Broken, dd_Broken, m0_Broken, m1_Broken, m2_Broken, m3_Broken, m5_Broken, x_Broken, by rfl⟩, sa_Broken, ec_Broken, tc_Broken, kc_Broken⟩, gi_Broken, ti_Broken, (fun f hf => by
      simp only [List.mem_cons, List.not_mem_nil, or_false] at hf
      rcases hf with rfl
      · exact nf2_Broken), ini_Broken F_Broken, (F_Broken.binds fun _ _ _ _ _ _ us hl => match us, hl with | [_, _], _ => rfl), F_Broken⟩
  have v_InvalidFilter : ErrV l.prog w K mg base 1 "InvalidFilter" "InvalidFilter.__init__" i_InvalidFilter ["self", "at"] ["at"] := ⟨c_InvalidFilter, f_InvalidFilter, _, n_InvalidFilter, PySem.W.mg_of X G n_InvalidFilter, ⟨⟨nm_InvalidFilter, q_InvalidFilter, N_InvalidFilter, bs_InvalidFilter, _, sn_InvalidFilter, sub_InvalidFilter, ab_InvalidFilter, col_InvalidFilter, dd_InvalidFilter, m0_InvalidFilter, m1_InvalidFilter, m2_InvalidFilter, m3_InvalidFilter, m5_InvalidFilter, x_InvalidFilter, by rfl⟩, sa_InvalidFilter, ec_InvalidFilter, tc_InvalidFilter, kc_InvalidFilter⟩, gi_InvalidFilter, ti_InvalidFilter, (fun f hf => by
      simp only [List.mem_cons, List.not_mem_nil, or_false] at hf
      rcases hf with rfl
      · exact nf0_InvalidFilter), ini_InvalidFilter F_InvalidFilter, (F_InvalidFilter.binds fun _ _ _ _ _ _ us hl => match us, hl with | [_, _], _ => rfl), F_InvalidFilter⟩
  have v_InvalidItem : ErrV l.prog w K mg base 1 "InvalidItem" "InvalidItem.__init__" i_InvalidItem ["self", "at"] ["at"] := ⟨c_InvalidItem, f_InvalidItem, _, n_InvalidItem, PySem.W.mg_of X G n_InvalidItem, ⟨⟨nm_InvalidItem, q_InvalidItem, N_InvalidItem, bs_InvalidItem, _, sn_InvalidItem, sub_InvalidItem, ab_InvalidItem, col_InvalidItem, dd_InvalidItem, m0_InvalidItem, m1_InvalidItem, m2_InvalidItem, m3_InvalidItem, m5_InvalidItem, x_InvalidItem, by rfl⟩, sa_InvalidItem, ec_InvalidItem, tc_InvalidItem, kc_InvalidItem⟩, gi_InvalidItem, ti_InvalidItem, (fun f hf => by
      simp only [List.mem_cons, List.not_mem_nil, or_false] at hf
      rcases hf with rfl
      · exact nf0_InvalidItem), ini_InvalidItem F_InvalidItem, (F_InvalidItem.binds fun _ _ _ _ _ _ us hl => match us, hl with | [_, _], _ => rfl), F_InvalidItem⟩
  have v_InvalidNumber : ErrV l.prog w K mg base 1 "InvalidNumber" "InvalidNumber.__init__" i_InvalidNumber ["self", "word"] ["word"] := ⟨c_InvalidNumber, f_InvalidNumber, _, n_InvalidNumber, PySem.W.mg_of X G n_InvalidNumber, ⟨⟨nm_InvalidNumber, q_InvalidNumber, N_InvalidNumber, bs_InvalidNumber, _, sn_InvalidNumber, sub_InvalidNumber, ab_InvalidNumber, col_InvalidNumber, dd_InvalidNumber, m0_InvalidNumber, m1_InvalidNumber, m2_InvalidNumber, m3_InvalidNumber, m5_InvalidNumber, x_InvalidNumber, by rfl⟩, sa_InvalidNumber, ec_InvalidNumber, tc_InvalidNumber, kc_InvalidNumber⟩, gi_InvalidNumber, ti_InvalidNumber, (fun f hf => by
      simp only [List.mem_cons, List.not_mem_nil, or_false] at hf
      rcases hf with rfl
      · exact nf2_InvalidNumber), ini_InvalidNumber F_InvalidNumber, (F_InvalidNumber.binds fun _ _ _ _ _ _ us hl => match us, hl with | [_, _], _ => rfl), F_InvalidNumber⟩
  have v_InvalidPaper : ErrV l.prog w K mg base 1 "InvalidPaper" "InvalidPaper.__init__" i_InvalidPaper ["self", "at"] ["at"] := ⟨c_InvalidPaper, f_InvalidPaper, _, n_InvalidPaper, PySem.W.mg_of X G n_InvalidPaper, ⟨⟨nm_InvalidPaper, q_InvalidPaper, N_InvalidPaper, bs_InvalidPaper, _, sn_InvalidPaper, sub_InvalidPaper, ab_InvalidPaper, col_InvalidPaper, dd_InvalidPaper, m0_InvalidPaper, m1_InvalidPaper, m2_InvalidPaper, m3_InvalidPaper, m5_InvalidPaper, x_InvalidPaper, by rfl⟩, sa_InvalidPaper, ec_InvalidPaper, tc_InvalidPaper, kc_InvalidPaper⟩, gi_InvalidPaper, ti_InvalidPaper, (fun f hf => by
      simp only [List.mem_cons, List.not_mem_nil, or_false] at hf
      rcases hf with rfl
      · exact nf0_InvalidPaper), ini_InvalidPaper F_InvalidPaper, (F_InvalidPaper.binds fun _ _ _ _ _ _ us hl => match us, hl with | [_, _], _ => rfl), F_InvalidPaper⟩
  have v_InvalidQuestion : ErrV l.prog w K mg base 1 "InvalidQuestion" "InvalidQuestion.__init__" i_InvalidQuestion ["self", "at"] ["at"] := ⟨c_InvalidQuestion, f_InvalidQuestion, _, n_InvalidQuestion, PySem.W.mg_of X G n_InvalidQuestion, ⟨⟨nm_InvalidQuestion, q_InvalidQuestion, N_InvalidQuestion, bs_InvalidQuestion, _, sn_InvalidQuestion, sub_InvalidQuestion, ab_InvalidQuestion, col_InvalidQuestion, dd_InvalidQuestion, m0_InvalidQuestion, m1_InvalidQuestion, m2_InvalidQuestion, m3_InvalidQuestion, m5_InvalidQuestion, x_InvalidQuestion, by rfl⟩, sa_InvalidQuestion, ec_InvalidQuestion, tc_InvalidQuestion, kc_InvalidQuestion⟩, gi_InvalidQuestion, ti_InvalidQuestion, (fun f hf => by
      simp only [List.mem_cons, List.not_mem_nil, or_false] at hf
      rcases hf with rfl
      · exact nf0_InvalidQuestion), ini_InvalidQuestion F_InvalidQuestion, (F_InvalidQuestion.binds fun _ _ _ _ _ _ us hl => match us, hl with | [_, _], _ => rfl), F_InvalidQuestion⟩
  have v_InvalidText : ErrV l.prog w K mg base 1 "InvalidText" "InvalidText.__init__" i_InvalidText ["self", "line", "at"] ["line", "at"] := ⟨c_InvalidText, f_InvalidText, _, n_InvalidText, PySem.W.mg_of X G n_InvalidText, ⟨⟨nm_InvalidText, q_InvalidText, N_InvalidText, bs_InvalidText, _, sn_InvalidText, sub_InvalidText, ab_InvalidText, col_InvalidText, dd_InvalidText, m0_InvalidText, m1_InvalidText, m2_InvalidText, m3_InvalidText, m5_InvalidText, x_InvalidText, by rfl⟩, sa_InvalidText, ec_InvalidText, tc_InvalidText, kc_InvalidText⟩, gi_InvalidText, ti_InvalidText, (fun f hf => by
      simp only [List.mem_cons, List.not_mem_nil, or_false] at hf
      rcases hf with rfl | rfl
      · exact nf1_InvalidText
      · exact nf0_InvalidText), ini_InvalidText F_InvalidText, (F_InvalidText.binds fun _ _ _ _ _ _ us hl => match us, hl with | [_, _, _], _ => rfl), F_InvalidText⟩
  have v_InvalidVector : ErrV l.prog w K mg base 1 "InvalidVector" "InvalidVector.__init__" i_InvalidVector ["self", "at"] ["at"] := ⟨c_InvalidVector, f_InvalidVector, _, n_InvalidVector, PySem.W.mg_of X G n_InvalidVector, ⟨⟨nm_InvalidVector, q_InvalidVector, N_InvalidVector, bs_InvalidVector, _, sn_InvalidVector, sub_InvalidVector, ab_InvalidVector, col_InvalidVector, dd_InvalidVector, m0_InvalidVector, m1_InvalidVector, m2_InvalidVector, m3_InvalidVector, m5_InvalidVector, x_InvalidVector, by rfl⟩, sa_InvalidVector, ec_InvalidVector, tc_InvalidVector, kc_InvalidVector⟩, gi_InvalidVector, ti_InvalidVector, (fun f hf => by
      simp only [List.mem_cons, List.not_mem_nil, or_false] at hf
      rcases hf with rfl
      · exact nf0_InvalidVector), ini_InvalidVector F_InvalidVector, (F_InvalidVector.binds fun _ _ _ _ _ _ us hl => match us, hl with | [_, _], _ => rfl), F_InvalidVector⟩
  have v_Refused : ErrV l.prog w K mg base 1 "Refused" "Refused.__init__" i_Refused ["self", "word"] ["word"] := ⟨c_Refused, f_Refused, _, n_Refused, PySem.W.mg_of X G n_Refused, ⟨⟨nm_Refused, q_Refused, N_Refused, bs_Refused, _, sn_Refused, sub_Refused, ab_Refused, col_Refused, dd_Refused, m0_Refused, m1_Refused, m2_Refused, m3_Refused, m5_Refused, x_Refused, by rfl⟩, sa_Refused, ec_Refused, tc_Refused, kc_Refused⟩, gi_Refused, ti_Refused, (fun f hf => by
      simp only [List.mem_cons, List.not_mem_nil, or_false] at hf
      rcases hf with rfl
      · exact nf2_Refused), ini_Refused F_Refused, (F_Refused.binds fun _ _ _ _ _ _ us hl => match us, hl with | [_, _], _ => rfl), F_Refused⟩
  have h_is_int : Has l.prog w K mg base 1 "is_int" s_is_int ["value"] F_is_int := Has.mk' (fun_mk (st := s_is_int) l0 c0 k0) (PySem.W.mg_of X G a0) (ok_is_int (P := l.prog) (w := w) (base := base) (fun_mk (st := s_is_int) l0 c0 k0) T len_is_int wp_is_int) fun _ _ _ _ _ _ us hl => match us, hl with | [_], _ => rfl
  have h_is_tuple_of : Has l.prog w K mg base 1 "is_tuple_of" s_is_tuple_of ["value", "many"] F_is_tuple_of := Has.mk' (fun_mk (st := s_is_tuple_of) l1 c1 k1) (PySem.W.mg_of X G a1) (ok_is_tuple_of (P := l.prog) (w := w) (base := base) (fun_mk (st := s_is_tuple_of) l1 c1 k1) T len_is_tuple_of wp_is_tuple_of) fun _ _ _ _ _ _ us hl => match us, hl with | [_, _], _ => rfl
  have h_is_kind : Has l.prog w K mg base 1 "is_kind" s_is_kind ["value"] F_is_kind := Has.mk' (fun_mk (st := s_is_kind) l4 c4 k4) (PySem.W.mg_of X G a4) (ok_is_kind (P := l.prog) (w := w) (base := base) (fun_mk (st := s_is_kind) l4 c4 k4) T len_is_kind wp_is_kind) fun _ _ _ _ _ _ us hl => match us, hl with | [_], _ => rfl
  have h__law_heap : Has l.prog w K mg base 1 "_law_heap" s__law_heap ["script"] F__law_heap := Has.mk' (fun_mk (st := s__law_heap) l5 c5 k5) (PySem.W.mg_of X G a5) (ok__law_heap (P := l.prog) (w := w) (base := base) (fun_mk (st := s__law_heap) l5 c5 k5) T len__law_heap wp__law_heap) fun _ _ _ _ _ _ us hl => match us, hl with | [_], _ => rfl
  have h__law_draw : Has l.prog w K mg base 1 "_law_draw" s__law_draw ["heap", "many"] F__law_draw := Has.mk' (fun_mk (st := s__law_draw) l6 c6 k6) (PySem.W.mg_of X G a6) (ok__law_draw (P := l.prog) (w := w) (base := base) (fun_mk (st := s__law_draw) l6 c6 k6) T) fun _ _ _ _ _ _ us hl => match us, hl with | [_, _], _ => rfl
  have h_is_vector : Has l.prog w K mg base 2 "is_vector" s_is_vector ["value", "many"] F_is_vector := Has.mk' (fun_mk (st := s_is_vector) l2 c2 k2) (PySem.W.mg_of X G a2) (ok_is_vector (P := l.prog) (w := w) (base := base) (fun_mk (st := s_is_vector) l2 c2 k2) T h_is_int h_is_tuple_of len_is_vector wp_is_vector) fun _ _ _ _ _ _ us hl => match us, hl with | [_, _], _ => rfl
  have h__law_pick : Has l.prog w K mg base 2 "_law_pick" s__law_pick ["heap", "some"] F__law_pick := Has.mk' (fun_mk (st := s__law_pick) l7 c7 k7) (PySem.W.mg_of X G a7) (ok__law_pick (P := l.prog) (w := w) (base := base) (fun_mk (st := s__law_pick) l7 c7 k7) T h__law_draw len__law_pick wp__law_pick) fun _ _ _ _ _ _ us hl => match us, hl with | [_, _], _ => rfl
  have h_check_vector : Has l.prog w K mg base 3 "check_vector" s_check_vector ["value", "many"] F_check_vector := Has.mk' (fun_mk (st := s_check_vector) l3 c3 k3) (PySem.W.mg_of X G a3) (ok_check_vector (P := l.prog) (w := w) (base := base) (fun_mk (st := s_check_vector) l3 c3 k3) T h_is_int h_is_tuple_of h_InvalidVector len_check_vector wp_check_vector) fun _ _ _ _ _ _ us hl => match us, hl with | [_, _], _ => rfl
  have h__law_errors_right : Has l.prog w K mg base 3 "_law_errors_right" s__law_errors_right ["heap"] F__law_errors_right := Has.mk' (fun_mk (st := s__law_errors_right) l11 c11 k11) (PySem.W.mg_of X G a11) (ok__law_errors_right (P := l.prog) (w := w) (base := base) (fun_mk (st := s__law_errors_right) l11 c11 k11) T h__law_pick v_Broken v_InvalidFilter v_InvalidItem v_InvalidNumber v_InvalidPaper v_InvalidQuestion v_InvalidText v_InvalidVector v_Refused len__law_errors_right wp__law_errors_right) fun _ _ _ _ _ _ us hl => match us, hl with | [_], _ => rfl
  have h__law_heard : Has l.prog w K mg base 4 "_law_heard" s__law_heard ["value", "many"] F__law_heard := Has.mk' (fun_mk (st := s__law_heard) l8 c8 k8) (PySem.W.mg_of X G a8) (ok__law_heard (P := l.prog) (w := w) (base := base) (fun_mk (st := s__law_heard) l8 c8 k8) T h_check_vector len__law_heard wp__law_heard) fun _ _ _ _ _ _ us hl => match us, hl with | [_, _], _ => rfl
  have h__law_right : Has l.prog w K mg base 5 "_law_right" s__law_right ["value", "many", "due"] F__law_right := Has.mk' (fun_mk (st := s__law_right) l9 c9 k9) (PySem.W.mg_of X G a9) (ok__law_right (P := l.prog) (w := w) (base := base) (fun_mk (st := s__law_right) l9 c9 k9) T h_is_vector h__law_heard len__law_right wp__law_right) fun _ _ _ _ _ _ us hl => match us, hl with | [_, _, _], _ => rfl
  have h__law_spoilt_right : Has l.prog w K mg base 6 "_law_spoilt_right" s__law_spoilt_right ["heap", "vector"] F__law_spoilt_right := Has.mk' (fun_mk (st := s__law_spoilt_right) l10 c10 k10) (PySem.W.mg_of X G a10) (ok__law_spoilt_right (P := l.prog) (w := w) (base := base) (fun_mk (st := s__law_spoilt_right) l10 c10 k10) T h__law_draw h__law_pick h__law_right len__law_spoilt_right wp__law_spoilt_right) fun _ _ _ _ _ _ us hl => match us, hl with | [_, _], _ => rfl
  exact ok_law (P := l.prog) (w := w) (base := base) (fun_mk (st := s_law) l12 c12 k12) T h_check_vector h_is_kind h__law_heap h__law_draw h__law_pick h__law_heard h__law_right h__law_spoilt_right h__law_errors_right len_law wp_law
theorem at_end {K : PySem.W.Frag} {H : Hp} {a : Addr} {ns : List Int} (hl : ns.length ≤ 63) (hS : SqL K H a (ns.map V.int)) : lift K F_law [.ref a] H (fun v _ => v = .bl true) fun _ _ _ => False := by
  have fe : fz (fun _ => none) H (fun _ => none) = H := by
    funext b
    exact fz_none rfl rfl
  refine ⟨fun _ => none, [.lst (ns.map .int)], fun _ => none, fun d _ => d = .bl true, fun _ _ _ => False, ⟨(fun _ _ e => nomatch e), (fun _ _ e => nomatch e)⟩, ?_, ⟨ns, rfl, hl, fun _ => rfl⟩, fun v d H' M' _ r e => ?_, fun _ _ _ _ _ _ _ _ _ _ _ _ z => z⟩
  · rw [fe]
    exact .cons (.lst hS (.ofInts ns)) .nil
  · subst e
    cases r
    rfl
end K01
open PySem PySem.W PyProof.Rows in
set_option maxRecDepth 100000 in
set_option maxHeartbeats 0 in
theorem PySem.Challenge.cw_nonearer_k01_vectors_told_and_refused_holds : PySem.Challenge.rw_nonearer_k01_vectors_told_and_refused.Holds := by
  w_on; o_law; k_head; (case hw => w_witness2)
  k_fill
  refine L3.walk_g (l := PySem.Challenge.rw_nonearer_k01_vectors_told_and_refused) (n := 63) (k := 7) (x := "script") (sp := fun w => L3.lift _ K01.F_law) rfl (by decide) rfl ⟨rfl, by decide, by decide⟩ (fun w h Y => PySem.W.kIn_of Y) ?F (fun w H a ns hl hS => K01.at_end hl hS)
  case F =>
    intro w mg fa h KX G hmg
    refine' K01.all_mk rfl KX G hmg ?a0 ?l0 ?c0 ?k0 ?a1 ?l1 ?c1 ?k1 ?a2 ?l2 ?c2 ?k2 ?a3 ?l3 ?c3 ?k3 ?a4 ?l4 ?c4 ?k4 ?a5 ?l5 ?c5 ?k5 ?a6 ?l6 ?c6 ?k6 ?a7 ?l7 ?c7 ?k7 ?a8 ?l8 ?c8 ?k8 ?a9 ?l9 ?c9 ?k9 ?a10 ?l10 ?c10 ?k10 ?a11 ?l11 ?c11 ?k11 ?a12 ?l12 ?c12 ?k12 ?n_StoreError ?x_StoreError ?sa_StoreError ?ga_StoreError ?gg_StoreError ?kc_StoreError ?ec_StoreError ?tc_StoreError ?hd_StoreError ?ic_StoreError ?ha_StoreError ?hm_StoreError ?nf0_StoreError ?nf1_StoreError ?nf2_StoreError ?n_InvalidVector ?x_InvalidVector ?sa_InvalidVector ?ga_InvalidVector ?gg_InvalidVector ?kc_InvalidVector ?ec_InvalidVector ?tc_InvalidVector ?hd_InvalidVector ?ic_InvalidVector ?ha_InvalidVector ?hm_InvalidVector ?nf0_InvalidVector ?nf1_InvalidVector ?nf2_InvalidVector ?gi_InvalidVector ?ti_InvalidVector ?li_InvalidVector ?cc_InvalidVector ?ki_InvalidVector ?n_InvalidItem ?x_InvalidItem ?sa_InvalidItem ?ga_InvalidItem ?gg_InvalidItem ?kc_InvalidItem ?ec_InvalidItem ?tc_InvalidItem ?hd_InvalidItem ?ic_InvalidItem ?ha_InvalidItem ?hm_InvalidItem ?nf0_InvalidItem ?nf1_InvalidItem ?nf2_InvalidItem ?gi_InvalidItem ?ti_InvalidItem ?li_InvalidItem ?cc_InvalidItem ?ki_InvalidItem ?n_InvalidFilter ?x_InvalidFilter ?sa_InvalidFilter ?ga_InvalidFilter ?gg_InvalidFilter ?kc_InvalidFilter ?ec_InvalidFilter ?tc_InvalidFilter ?hd_InvalidFilter ?ic_InvalidFilter ?ha_InvalidFilter ?hm_InvalidFilter ?nf0_InvalidFilter ?nf1_InvalidFilter ?nf2_InvalidFilter ?gi_InvalidFilter ?ti_InvalidFilter ?li_InvalidFilter ?cc_InvalidFilter ?ki_InvalidFilter ?n_InvalidQuestion ?x_InvalidQuestion ?sa_InvalidQuestion ?ga_InvalidQuestion ?gg_InvalidQuestion ?kc_InvalidQuestion ?ec_InvalidQuestion ?tc_InvalidQuestion ?hd_InvalidQuestion ?ic_InvalidQuestion ?ha_InvalidQuestion ?hm_InvalidQuestion ?nf0_InvalidQuestion ?nf1_InvalidQuestion ?nf2_InvalidQuestion ?gi_InvalidQuestion ?ti_InvalidQuestion ?li_InvalidQuestion ?cc_InvalidQuestion ?ki_InvalidQuestion ?n_InvalidText ?x_InvalidText ?sa_InvalidText ?ga_InvalidText ?gg_InvalidText ?kc_InvalidText ?ec_InvalidText ?tc_InvalidText ?hd_InvalidText ?ic_InvalidText ?ha_InvalidText ?hm_InvalidText ?nf0_InvalidText ?nf1_InvalidText ?nf2_InvalidText ?gi_InvalidText ?ti_InvalidText ?li_InvalidText ?cc_InvalidText ?ki_InvalidText ?n_InvalidPaper ?x_InvalidPaper ?sa_InvalidPaper ?ga_InvalidPaper ?gg_InvalidPaper ?kc_InvalidPaper ?ec_InvalidPaper ?tc_InvalidPaper ?hd_InvalidPaper ?ic_InvalidPaper ?ha_InvalidPaper ?hm_InvalidPaper ?nf0_InvalidPaper ?nf1_InvalidPaper ?nf2_InvalidPaper ?gi_InvalidPaper ?ti_InvalidPaper ?li_InvalidPaper ?cc_InvalidPaper ?ki_InvalidPaper ?n_InvalidNumber ?x_InvalidNumber ?sa_InvalidNumber ?ga_InvalidNumber ?gg_InvalidNumber ?kc_InvalidNumber ?ec_InvalidNumber ?tc_InvalidNumber ?hd_InvalidNumber ?ic_InvalidNumber ?ha_InvalidNumber ?hm_InvalidNumber ?nf0_InvalidNumber ?nf1_InvalidNumber ?nf2_InvalidNumber ?gi_InvalidNumber ?ti_InvalidNumber ?li_InvalidNumber ?cc_InvalidNumber ?ki_InvalidNumber ?n_Refused ?x_Refused ?sa_Refused ?ga_Refused ?gg_Refused ?kc_Refused ?ec_Refused ?tc_Refused ?hd_Refused ?ic_Refused ?ha_Refused ?hm_Refused ?nf0_Refused ?nf1_Refused ?nf2_Refused ?gi_Refused ?ti_Refused ?li_Refused ?cc_Refused ?ki_Refused ?n_Broken ?x_Broken ?sa_Broken ?ga_Broken ?gg_Broken ?kc_Broken ?ec_Broken ?tc_Broken ?hd_Broken ?ic_Broken ?ha_Broken ?hm_Broken ?nf0_Broken ?nf1_Broken ?nf2_Broken ?gi_Broken ?ti_Broken ?li_Broken ?cc_Broken ?ki_Broken ?kve_StoreError ?kve_InvalidVector ?kve_InvalidItem ?kve_InvalidFilter ?kve_InvalidQuestion ?kve_InvalidText ?kve_InvalidPaper ?kve_InvalidNumber ?kve_Refused ?kve_Broken ?su_Broken_StoreError ?su_InvalidFilter_StoreError ?su_InvalidItem_StoreError ?su_InvalidNumber_StoreError ?su_InvalidPaper_StoreError ?su_InvalidQuestion_StoreError ?su_InvalidText_StoreError ?su_InvalidVector_StoreError ?su_Refused_StoreError ?su_StoreError_StoreError ?su_Broken_InvalidVector ?su_InvalidFilter_InvalidVector ?su_InvalidItem_InvalidVector ?su_InvalidNumber_InvalidVector ?su_InvalidPaper_InvalidVector ?su_InvalidQuestion_InvalidVector ?su_InvalidText_InvalidVector ?su_InvalidVector_InvalidVector ?su_Refused_InvalidVector ?su_StoreError_InvalidVector ?su_Broken_InvalidItem ?su_InvalidFilter_InvalidItem ?su_InvalidItem_InvalidItem ?su_InvalidNumber_InvalidItem ?su_InvalidPaper_InvalidItem ?su_InvalidQuestion_InvalidItem ?su_InvalidText_InvalidItem ?su_InvalidVector_InvalidItem ?su_Refused_InvalidItem ?su_StoreError_InvalidItem ?su_Broken_InvalidFilter ?su_InvalidFilter_InvalidFilter ?su_InvalidItem_InvalidFilter ?su_InvalidNumber_InvalidFilter ?su_InvalidPaper_InvalidFilter ?su_InvalidQuestion_InvalidFilter ?su_InvalidText_InvalidFilter ?su_InvalidVector_InvalidFilter ?su_Refused_InvalidFilter ?su_StoreError_InvalidFilter ?su_Broken_InvalidQuestion ?su_InvalidFilter_InvalidQuestion ?su_InvalidItem_InvalidQuestion ?su_InvalidNumber_InvalidQuestion ?su_InvalidPaper_InvalidQuestion ?su_InvalidQuestion_InvalidQuestion ?su_InvalidText_InvalidQuestion ?su_InvalidVector_InvalidQuestion ?su_Refused_InvalidQuestion ?su_StoreError_InvalidQuestion ?su_Broken_InvalidText ?su_InvalidFilter_InvalidText ?su_InvalidItem_InvalidText ?su_InvalidNumber_InvalidText ?su_InvalidPaper_InvalidText ?su_InvalidQuestion_InvalidText ?su_InvalidText_InvalidText ?su_InvalidVector_InvalidText ?su_Refused_InvalidText ?su_StoreError_InvalidText ?su_Broken_InvalidPaper ?su_InvalidFilter_InvalidPaper ?su_InvalidItem_InvalidPaper ?su_InvalidNumber_InvalidPaper ?su_InvalidPaper_InvalidPaper ?su_InvalidQuestion_InvalidPaper ?su_InvalidText_InvalidPaper ?su_InvalidVector_InvalidPaper ?su_Refused_InvalidPaper ?su_StoreError_InvalidPaper ?su_Broken_InvalidNumber ?su_InvalidFilter_InvalidNumber ?su_InvalidItem_InvalidNumber ?su_InvalidNumber_InvalidNumber ?su_InvalidPaper_InvalidNumber ?su_InvalidQuestion_InvalidNumber ?su_InvalidText_InvalidNumber ?su_InvalidVector_InvalidNumber ?su_Refused_InvalidNumber ?su_StoreError_InvalidNumber ?su_Broken_Refused ?su_InvalidFilter_Refused ?su_InvalidItem_Refused ?su_InvalidNumber_Refused ?su_InvalidPaper_Refused ?su_InvalidQuestion_Refused ?su_InvalidText_Refused ?su_InvalidVector_Refused ?su_Refused_Refused ?su_StoreError_Refused ?su_Broken_Broken ?su_InvalidFilter_Broken ?su_InvalidItem_Broken ?su_InvalidNumber_Broken ?su_InvalidPaper_Broken ?su_InvalidQuestion_Broken ?su_InvalidText_Broken ?su_InvalidVector_Broken ?su_Refused_Broken ?su_StoreError_Broken ?hnO ?htO ?z_ValueError ?z_abs ?z_all ?z_bool ?z_enumerate ?z_int ?z_isinstance ?z_len ?z_list ?z_range ?z_repr ?z_str ?z_tuple ?g_KINDS ?lk_KINDS
    (case a0 => k_is)
    (case l0 => k_is)
    (case c0 => k_is)
    (case k0 => k_is)
    (case a1 => k_is)
    (case l1 => k_is)
    (case c1 => k_is)
    (case k1 => k_is)
    (case a2 => k_is)
    (case l2 => k_is)
    (case c2 => k_is)
    (case k2 => k_is)
    (case a3 => k_is)
    (case l3 => k_is)
    (case c3 => k_is)
    (case k3 => k_is)
    (case a4 => k_is)
    (case l4 => k_is)
    (case c4 => k_is)
    (case k4 => k_is)
    (case a5 => k_is)
    (case l5 => k_is)
    (case c5 => k_is)
    (case k5 => k_is)
    (case a6 => k_is)
    (case l6 => k_is)
    (case c6 => k_is)
    (case k6 => k_is)
    (case a7 => k_is)
    (case l7 => k_is)
    (case c7 => k_is)
    (case k7 => k_is)
    (case a8 => k_is)
    (case l8 => k_is)
    (case c8 => k_is)
    (case k8 => k_is)
    (case a9 => k_is)
    (case l9 => k_is)
    (case c9 => k_is)
    (case k9 => k_is)
    (case a10 => k_is)
    (case l10 => k_is)
    (case c10 => k_is)
    (case k10 => k_is)
    (case a11 => k_is)
    (case l11 => k_is)
    (case c11 => k_is)
    (case k11 => k_is)
    (case a12 => k_is)
    (case l12 => k_is)
    (case c12 => k_is)
    (case k12 => k_is)
    (case n_StoreError => k_is)
    (case x_StoreError => k_is)
    (case sa_StoreError => k_is)
    (case ga_StoreError => k_is)
    (case gg_StoreError => k_is)
    (case kc_StoreError => k_is)
    (case ec_StoreError => k_is)
    (case tc_StoreError => k_is)
    (case hd_StoreError => k_is)
    (case ic_StoreError => k_is)
    (case ha_StoreError => k_is)
    (case hm_StoreError => k_is)
    (case nf0_StoreError => k_is)
    (case nf1_StoreError => k_is)
    (case nf2_StoreError => k_is)
    (case n_InvalidVector => k_is)
    (case x_InvalidVector => k_is)
    (case sa_InvalidVector => k_is)
    (case ga_InvalidVector => k_is)
    (case gg_InvalidVector => k_is)
    (case kc_InvalidVector => k_is)
    (case ec_InvalidVector => k_is)
    (case tc_InvalidVector => k_is)
    (case hd_InvalidVector => k_is)
    (case ic_InvalidVector => k_is)
    (case ha_InvalidVector => k_is)
    (case hm_InvalidVector => k_is)
    (case nf0_InvalidVector => k_is)
    (case nf1_InvalidVector => k_is)
    (case nf2_InvalidVector => k_is)
    (case gi_InvalidVector => k_is)
    (case ti_InvalidVector => k_is)
    (case li_InvalidVector => k_is)
    (case cc_InvalidVector => k_is)
    (case ki_InvalidVector => k_is)
    (case n_InvalidItem => k_is)
    (case x_InvalidItem => k_is)
    (case sa_InvalidItem => k_is)
    (case ga_InvalidItem => k_is)
    (case gg_InvalidItem => k_is)
    (case kc_InvalidItem => k_is)
    (case ec_InvalidItem => k_is)
    (case tc_InvalidItem => k_is)
    (case hd_InvalidItem => k_is)
    (case ic_InvalidItem => k_is)
    (case ha_InvalidItem => k_is)
    (case hm_InvalidItem => k_is)
    (case nf0_InvalidItem => k_is)
    (case nf1_InvalidItem => k_is)
    (case nf2_InvalidItem => k_is)
    (case gi_InvalidItem => k_is)
    (case ti_InvalidItem => k_is)
    (case li_InvalidItem => k_is)
    (case cc_InvalidItem => k_is)
    (case ki_InvalidItem => k_is)
    (case n_InvalidFilter => k_is)
    (case x_InvalidFilter => k_is)
    (case sa_InvalidFilter => k_is)
    (case ga_InvalidFilter => k_is)
    (case gg_InvalidFilter => k_is)
    (case kc_InvalidFilter => k_is)
    (case ec_InvalidFilter => k_is)
    (case tc_InvalidFilter => k_is)
    (case hd_InvalidFilter => k_is)
    (case ic_InvalidFilter => k_is)
    (case ha_InvalidFilter => k_is)
    (case hm_InvalidFilter => k_is)
    (case nf0_InvalidFilter => k_is)
    (case nf1_InvalidFilter => k_is)
    (case nf2_InvalidFilter => k_is)
    (case gi_InvalidFilter => k_is)
    (case ti_InvalidFilter => k_is)
    (case li_InvalidFilter => k_is)
    (case cc_InvalidFilter => k_is)
    (case ki_InvalidFilter => k_is)
    (case n_InvalidQuestion => k_is)
    (case x_InvalidQuestion => k_is)
    (case sa_InvalidQuestion => k_is)
    (case ga_InvalidQuestion => k_is)
    (case gg_InvalidQuestion => k_is)
    (case kc_InvalidQuestion => k_is)
    (case ec_InvalidQuestion => k_is)
    (case tc_InvalidQuestion => k_is)
    (case hd_InvalidQuestion => k_is)
    (case ic_InvalidQuestion => k_is)
    (case ha_InvalidQuestion => k_is)
    (case hm_InvalidQuestion => k_is)
    (case nf0_InvalidQuestion => k_is)
    (case nf1_InvalidQuestion => k_is)
    (case nf2_InvalidQuestion => k_is)
    (case gi_InvalidQuestion => k_is)
    (case ti_InvalidQuestion => k_is)
    (case li_InvalidQuestion => k_is)
    (case cc_InvalidQuestion => k_is)
    (case ki_InvalidQuestion => k_is)
    (case n_InvalidText => k_is)
    (case x_InvalidText => k_is)
    (case sa_InvalidText => k_is)
    (case ga_InvalidText => k_is)
    (case gg_InvalidText => k_is)
    (case kc_InvalidText => k_is)
    (case ec_InvalidText => k_is)
    (case tc_InvalidText => k_is)
    (case hd_InvalidText => k_is)
    (case ic_InvalidText => k_is)
    (case ha_InvalidText => k_is)
    (case hm_InvalidText => k_is)
    (case nf0_InvalidText => k_is)
    (case nf1_InvalidText => k_is)
    (case nf2_InvalidText => k_is)
    (case gi_InvalidText => k_is)
    (case ti_InvalidText => k_is)
    (case li_InvalidText => k_is)
    (case cc_InvalidText => k_is)
    (case ki_InvalidText => k_is)
    (case n_InvalidPaper => k_is)
    (case x_InvalidPaper => k_is)
    (case sa_InvalidPaper => k_is)
    (case ga_InvalidPaper => k_is)
    (case gg_InvalidPaper => k_is)
    (case kc_InvalidPaper => k_is)
    (case ec_InvalidPaper => k_is)
    (case tc_InvalidPaper => k_is)
    (case hd_InvalidPaper => k_is)
    (case ic_InvalidPaper => k_is)
    (case ha_InvalidPaper => k_is)
    (case hm_InvalidPaper => k_is)
    (case nf0_InvalidPaper => k_is)
    (case nf1_InvalidPaper => k_is)
    (case nf2_InvalidPaper => k_is)
    (case gi_InvalidPaper => k_is)
    (case ti_InvalidPaper => k_is)
    (case li_InvalidPaper => k_is)
    (case cc_InvalidPaper => k_is)
    (case ki_InvalidPaper => k_is)
    (case n_InvalidNumber => k_is)
    (case x_InvalidNumber => k_is)
    (case sa_InvalidNumber => k_is)
    (case ga_InvalidNumber => k_is)
    (case gg_InvalidNumber => k_is)
    (case kc_InvalidNumber => k_is)
    (case ec_InvalidNumber => k_is)
    (case tc_InvalidNumber => k_is)
    (case hd_InvalidNumber => k_is)
    (case ic_InvalidNumber => k_is)
    (case ha_InvalidNumber => k_is)
    (case hm_InvalidNumber => k_is)
    (case nf0_InvalidNumber => k_is)
    (case nf1_InvalidNumber => k_is)
    (case nf2_InvalidNumber => k_is)
    (case gi_InvalidNumber => k_is)
    (case ti_InvalidNumber => k_is)
    (case li_InvalidNumber => k_is)
    (case cc_InvalidNumber => k_is)
    (case ki_InvalidNumber => k_is)
    (case n_Refused => k_is)
    (case x_Refused => k_is)
    (case sa_Refused => k_is)
    (case ga_Refused => k_is)
    (case gg_Refused => k_is)
    (case kc_Refused => k_is)
    (case ec_Refused => k_is)
    (case tc_Refused => k_is)
    (case hd_Refused => k_is)
    (case ic_Refused => k_is)
    (case ha_Refused => k_is)
    (case hm_Refused => k_is)
    (case nf0_Refused => k_is)
    (case nf1_Refused => k_is)
    (case nf2_Refused => k_is)
    (case gi_Refused => k_is)
    (case ti_Refused => k_is)
    (case li_Refused => k_is)
    (case cc_Refused => k_is)
    (case ki_Refused => k_is)
    (case n_Broken => k_is)
    (case x_Broken => k_is)
    (case sa_Broken => k_is)
    (case ga_Broken => k_is)
    (case gg_Broken => k_is)
    (case kc_Broken => k_is)
    (case ec_Broken => k_is)
    (case tc_Broken => k_is)
    (case hd_Broken => k_is)
    (case ic_Broken => k_is)
    (case ha_Broken => k_is)
    (case hm_Broken => k_is)
    (case nf0_Broken => k_is)
    (case nf1_Broken => k_is)
    (case nf2_Broken => k_is)
    (case gi_Broken => k_is)
    (case ti_Broken => k_is)
    (case li_Broken => k_is)
    (case cc_Broken => k_is)
    (case ki_Broken => k_is)
    (case kve_StoreError => kit_is)
    (case kve_InvalidVector => kit_is)
    (case kve_InvalidItem => kit_is)
    (case kve_InvalidFilter => kit_is)
    (case kve_InvalidQuestion => kit_is)
    (case kve_InvalidText => kit_is)
    (case kve_InvalidPaper => kit_is)
    (case kve_InvalidNumber => kit_is)
    (case kve_Refused => kit_is)
    (case kve_Broken => kit_is)
    (case su_Broken_StoreError => k_is)
    (case su_InvalidFilter_StoreError => k_is)
    (case su_InvalidItem_StoreError => k_is)
    (case su_InvalidNumber_StoreError => k_is)
    (case su_InvalidPaper_StoreError => k_is)
    (case su_InvalidQuestion_StoreError => k_is)
    (case su_InvalidText_StoreError => k_is)
    (case su_InvalidVector_StoreError => k_is)
    (case su_Refused_StoreError => k_is)
    (case su_StoreError_StoreError => k_is)
    (case su_Broken_InvalidVector => k_is)
    (case su_InvalidFilter_InvalidVector => k_is)
    (case su_InvalidItem_InvalidVector => k_is)
    (case su_InvalidNumber_InvalidVector => k_is)
    (case su_InvalidPaper_InvalidVector => k_is)
    (case su_InvalidQuestion_InvalidVector => k_is)
    (case su_InvalidText_InvalidVector => k_is)
    (case su_InvalidVector_InvalidVector => k_is)
    (case su_Refused_InvalidVector => k_is)
    (case su_StoreError_InvalidVector => k_is)
    (case su_Broken_InvalidItem => k_is)
    (case su_InvalidFilter_InvalidItem => k_is)
    (case su_InvalidItem_InvalidItem => k_is)
    (case su_InvalidNumber_InvalidItem => k_is)
    (case su_InvalidPaper_InvalidItem => k_is)
    (case su_InvalidQuestion_InvalidItem => k_is)
    (case su_InvalidText_InvalidItem => k_is)
    (case su_InvalidVector_InvalidItem => k_is)
    (case su_Refused_InvalidItem => k_is)
    (case su_StoreError_InvalidItem => k_is)
    (case su_Broken_InvalidFilter => k_is)
    (case su_InvalidFilter_InvalidFilter => k_is)
    (case su_InvalidItem_InvalidFilter => k_is)
    (case su_InvalidNumber_InvalidFilter => k_is)
    (case su_InvalidPaper_InvalidFilter => k_is)
    (case su_InvalidQuestion_InvalidFilter => k_is)
    (case su_InvalidText_InvalidFilter => k_is)
    (case su_InvalidVector_InvalidFilter => k_is)
    (case su_Refused_InvalidFilter => k_is)
    (case su_StoreError_InvalidFilter => k_is)
    (case su_Broken_InvalidQuestion => k_is)
    (case su_InvalidFilter_InvalidQuestion => k_is)
    (case su_InvalidItem_InvalidQuestion => k_is)
    (case su_InvalidNumber_InvalidQuestion => k_is)
    (case su_InvalidPaper_InvalidQuestion => k_is)
    (case su_InvalidQuestion_InvalidQuestion => k_is)
    (case su_InvalidText_InvalidQuestion => k_is)
    (case su_InvalidVector_InvalidQuestion => k_is)
    (case su_Refused_InvalidQuestion => k_is)
    (case su_StoreError_InvalidQuestion => k_is)
    (case su_Broken_InvalidText => k_is)
    (case su_InvalidFilter_InvalidText => k_is)
    (case su_InvalidItem_InvalidText => k_is)
    (case su_InvalidNumber_InvalidText => k_is)
    (case su_InvalidPaper_InvalidText => k_is)
    (case su_InvalidQuestion_InvalidText => k_is)
    (case su_InvalidText_InvalidText => k_is)
    (case su_InvalidVector_InvalidText => k_is)
    (case su_Refused_InvalidText => k_is)
    (case su_StoreError_InvalidText => k_is)
    (case su_Broken_InvalidPaper => k_is)
    (case su_InvalidFilter_InvalidPaper => k_is)
    (case su_InvalidItem_InvalidPaper => k_is)
    (case su_InvalidNumber_InvalidPaper => k_is)
    (case su_InvalidPaper_InvalidPaper => k_is)
    (case su_InvalidQuestion_InvalidPaper => k_is)
    (case su_InvalidText_InvalidPaper => k_is)
    (case su_InvalidVector_InvalidPaper => k_is)
    (case su_Refused_InvalidPaper => k_is)
    (case su_StoreError_InvalidPaper => k_is)
    (case su_Broken_InvalidNumber => k_is)
    (case su_InvalidFilter_InvalidNumber => k_is)
    (case su_InvalidItem_InvalidNumber => k_is)
    (case su_InvalidNumber_InvalidNumber => k_is)
    (case su_InvalidPaper_InvalidNumber => k_is)
    (case su_InvalidQuestion_InvalidNumber => k_is)
    (case su_InvalidText_InvalidNumber => k_is)
    (case su_InvalidVector_InvalidNumber => k_is)
    (case su_Refused_InvalidNumber => k_is)
    (case su_StoreError_InvalidNumber => k_is)
    (case su_Broken_Refused => k_is)
    (case su_InvalidFilter_Refused => k_is)
    (case su_InvalidItem_Refused => k_is)
    (case su_InvalidNumber_Refused => k_is)
    (case su_InvalidPaper_Refused => k_is)
    (case su_InvalidQuestion_Refused => k_is)
    (case su_InvalidText_Refused => k_is)
    (case su_InvalidVector_Refused => k_is)
    (case su_Refused_Refused => k_is)
    (case su_StoreError_Refused => k_is)
    (case su_Broken_Broken => k_is)
    (case su_InvalidFilter_Broken => k_is)
    (case su_InvalidItem_Broken => k_is)
    (case su_InvalidNumber_Broken => k_is)
    (case su_InvalidPaper_Broken => k_is)
    (case su_InvalidQuestion_Broken => k_is)
    (case su_InvalidText_Broken => k_is)
    (case su_InvalidVector_Broken => k_is)
    (case su_Refused_Broken => k_is)
    (case su_StoreError_Broken => k_is)
    (case hnO => k_is)
    (case htO => k_is)
    (case z_ValueError => k_is)
    (case z_abs => k_is)
    (case z_all => k_is)
    (case z_bool => k_is)
    (case z_enumerate => k_is)
    (case z_int => k_is)
    (case z_isinstance => k_is)
    (case z_len => k_is)
    (case z_list => k_is)
    (case z_range => k_is)
    (case z_repr => k_is)
    (case z_str => k_is)
    (case z_tuple => k_is)
    (case g_KINDS => k_is)
    (case lk_KINDS => k_is)
#print axioms PySem.Challenge.cw_nonearer_k01_vectors_told_and_refused_holds
