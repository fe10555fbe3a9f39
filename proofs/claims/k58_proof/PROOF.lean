import PyProof.Rows.All
import Wide.All
import OpenK.AllK
import Wide.FinOn
import HandS.ForMost
import HandS.ForExc
import HandS.Wide
import HandS.Zip
import HandS.Defaults
import HandS.TupAny
import HandS.Conv
import HandS.Style
import HandS.FStr
import HandS.Lambda
import HandS.EndTab
import PyProof.Rows.NestShow
import HandS.Gcd
import HandS.SortKw
import HandS.TupMul
import HandS.IsInst
import KE.DataMinMax
import KE.GoesEnum
import HandS.Flt
import HandS.Star
import HandS.ExcInit
import HandS.ExcField
import HandS.TryOnly
import HandS.TryMany
import KE.KExcIs
import HandS.ExcIs
import KE.SortData
import PyProof.EnumMake
import HandS.Iter
import HandS.Remove
import KE.KIndexOf
import HandS.DictComp
import HandS.ListItems
import HandS.SetKeys
import HandS.Deep
import HandS.StrMore
import PyProof.FactsAll.dict
import KE.KEqDict
import HandS.MakeKw
import KE.DataCmp
import HandS.MakeKwOnly
import KE.DataMinKey
import HandS.Comp
import HandS.Strs
import HandS.SetFor
import HandS.More
import PyProof.FactsAll.list_3
import KE.KSortTup
import HandS.List
import KE.DataEq
import HandS.Text
import PySem.Challenge.RW_nonearer_k58_files_of_a_shard
set_option Elab.async false
set_option maxHeartbeats 0
set_option linter.all false
set_option maxRecDepth 100000
set_option exponentiation.threshold 20000
/-! A second layer over HandS: data by value (D), mutable objects as tokens in a store (Mp), readings as predicate transformers over data. -/
namespace L3
open PySem L2
/-! ### data -/
inductive D where
  | non | bl (b : Bool) | int (i : Int) | str (x : Str) | ty (n : String) | tok (a : Addr)
  | tup (ds : List D) | lst (ds : List D)
  /-- an exception at a: its class's name, its dict at dx, its fields -/
  | exc (a : Addr) (x : Str) (dx : Addr) (ns : List Str) (ds : List D)
  /-- a tuple that is known to bear no dict -/
  | tpl (ds : List D)
  /-- a dict that never changes -/
  | dct (ks : List Key) (ds : List D)
mutual
inductive Rep (K : PySem.W.Frag) (H : Hp) : V → D → Prop
  | non : Rep K H .non .non
  | bl (b : Bool) : Rep K H (.bl b) (.bl b)
  | int (i : Int) : Rep K H (.int i) (.int i)
  | str (x : Str) : Rep K H (.str x) (.str x)
  | ty (n : String) : Rep K H (.ty n) (.ty n)
  | tok (a : Addr) : Rep K H (.ref a) (.tok a)
  | tup {a : Addr} {vs : List V} {ds : List D} : SqT K H a vs → RepL K H vs ds → Rep K H (.ref a) (.tup ds)
  | lst {a : Addr} {vs : List V} {ds : List D} : SqL K H a vs → RepL K H vs ds → Rep K H (.ref a) (.lst ds)
  | exc {a dx : Addr} {x : Str} {ns : List Str} {vs : List V} {ds : List D} : H dx = some (.xd (ns.zip vs)) → ns.length = vs.length → RepL K H vs ds → Rep K H (.ref a) (.exc a x dx ns ds)
  | tpl {a : Addr} {o : Obj} {vs : List V} {ds : List D} : H a = some (.frz o (.tup vs)) → o.dict = none → RepL K H vs ds → Rep K H (.ref a) (.tpl ds)
  | dct {a : Addr} {ks : List Key} {vs : List V} {ds : List D} : Rd H a (.dK (ks.zip vs)) → ks.length = vs.length → RepL K H vs ds → Rep K H (.ref a) (.dct ks ds)
inductive RepL (K : PySem.W.Frag) (H : Hp) : List V → List D → Prop
  | nil : RepL K H [] []
  | cons {v : V} {vs : List V} {d : D} {ds : List D} : Rep K H v d → RepL K H vs ds → RepL K H (v :: vs) (d :: ds)
end
theorem rd_mono {H H' : Hp} {a : Addr} {u : HO} (e : Same H H') (h : Rd H a u) : Rd H' a u := by
  rcases h with h | ⟨o, h⟩
  · exact .inl (e _ _ h)
  · exact .inr ⟨o, e _ _ h⟩
theorem sqt_mono {K : PySem.W.Frag} {H H' : Hp} {a : Addr} {xs : List V} (e : Same H H') (h : SqT K H a xs) : SqT K H' a xs := by
  rcases h with (h | ⟨o, h⟩) | h
  · exact .inl (.inl (e _ _ h))
  · exact .inl (.inr ⟨o, e _ _ h⟩)
  · exact .inr h
mutual
theorem Rep.mono {K : PySem.W.Frag} {H H' : Hp} (e : Same H H') : ∀ (d : D) (v : V), Rep K H v d → Rep K H' v d
  | .non, _, h => by cases h; exact .non
  | .bl b, _, h => by cases h; exact .bl b
  | .int i, _, h => by cases h; exact .int i
  | .str x, _, h => by cases h; exact .str x
  | .ty n, _, h => by cases h; exact .ty n
  | .tok a, _, h => by cases h; exact .tok a
  | .tup ds, _, h => by
    cases h with
    | tup hs ha => exact .tup (sqt_mono e hs) (RepL.mono e ds _ ha)
  | .lst ds, _, h => by
    cases h with
    | lst hs ha => exact .lst (e.seq hs) (RepL.mono e ds _ ha)
  | .exc a x dx ns ds, _, h => by
    cases h with
    | exc hx hl ha => exact .exc (e _ _ hx) hl (RepL.mono e ds _ ha)
  | .tpl ds, _, h => by
    cases h with
    | tpl hx hl ha => exact .tpl (e _ _ hx) hl (RepL.mono e ds _ ha)
  | .dct ks ds, _, h => by
    cases h with
    | dct hx hl ha => exact .dct (rd_mono e hx) hl (RepL.mono e ds _ ha)
theorem RepL.mono {K : PySem.W.Frag} {H H' : Hp} (e : Same H H') : ∀ (ds : List D) (vs : List V), RepL K H vs ds → RepL K H' vs ds
  | [], _, h => by cases h; exact .nil
  | d :: ds, _, h => by
    cases h with
    | cons h1 h2 => exact .cons (Rep.mono e d _ h1) (RepL.mono e ds _ h2)
end
theorem Rep.up {K : PySem.W.Frag} {H H' : Hp} {v : V} {d : D} (h : Rep K H v d) (e : Same H H') : Rep K H' v d := Rep.mono e d v h
theorem RepL.up {K : PySem.W.Frag} {H H' : Hp} {v : List V} {d : List D} (h : RepL K H v d) (e : Same H H') : RepL K H' v d := RepL.mono e d v h
theorem RepL.len {K : PySem.W.Frag} {H : Hp} : ∀ {vs : List V} {ds : List D}, RepL K H vs ds → vs.length = ds.length
  | _, _, .nil => rfl
  | _, _, .cons _ r => by rw [List.length_cons, List.length_cons, r.len]
theorem RepL.app {K : PySem.W.Frag} {H : Hp} : ∀ {vs ws : List V} {ds es : List D}, RepL K H vs ds → RepL K H ws es → RepL K H (vs ++ ws) (ds ++ es)
  | _, _, _, _, .nil, s => s
  | _, _, _, _, .cons r t, s => .cons r (RepL.app t s)
theorem RepL.get {K : PySem.W.Frag} {H : Hp} : ∀ {vs : List V} {ds : List D} {i : Nat} {d : D}, RepL K H vs ds → ds[i]? = some d → ∃ v, vs[i]? = some v ∧ Rep K H v d
  | _, _, i, d, .nil, e => by simp at e
  | _, _, 0, d, .cons r t, e => by
    obtain rfl : _ = d := Option.some.inj e
    exact ⟨_, rfl, r⟩
  | _, _, i + 1, d, .cons r t, e => t.get (i := i) e
theorem RepL.set {K : PySem.W.Frag} {H : Hp} {v : V} {d : D} (r : Rep K H v d) : ∀ {vs : List V} {ds : List D} (i : Nat), RepL K H vs ds → RepL K H (vs.set i v) (ds.set i d)
  | _, _, _, .nil => .nil
  | _, _, 0, .cons _ t => .cons r t
  | _, _, i + 1, .cons q t => .cons q (RepL.set r i t)
theorem RepL.take {K : PySem.W.Frag} {H : Hp} : ∀ {vs : List V} {ds : List D} (n : Nat), RepL K H vs ds → RepL K H (vs.take n) (ds.take n)
  | _, _, 0, _ => .nil
  | _, _, n + 1, .nil => .nil
  | _, _, n + 1, .cons r t => .cons r (RepL.take n t)
theorem RepL.drop {K : PySem.W.Frag} {H : Hp} : ∀ {vs : List V} {ds : List D} (n : Nat), RepL K H vs ds → RepL K H (vs.drop n) (ds.drop n)
  | _, _, 0, r => r
  | _, _, n + 1, .nil => .nil
  | _, _, n + 1, .cons _ t => RepL.drop n t
theorem RepL.ints {K : PySem.W.Frag} {H : Hp} : ∀ {vs : List V} {ns : List Int}, RepL K H vs (ns.map D.int) → vs = ns.map V.int
  | _, [], h => by cases h; rfl
  | _, n :: ns, h => by
    cases h with
    | cons r t =>
      cases r
      rw [List.map_cons, RepL.ints t]
theorem RepL.ofInts {K : PySem.W.Frag} {H : Hp} : ∀ (ns : List Int), RepL K H (ns.map V.int) (ns.map D.int)
  | [] => .nil
  | n :: ns => .cons (.int n) (RepL.ofInts ns)
theorem RepL.strs {K : PySem.W.Frag} {H : Hp} : ∀ {vs : List V} {ns : List Str}, RepL K H vs (ns.map D.str) → vs = ns.map V.str
  | _, [], h => by cases h; rfl
  | _, n :: ns, h => by
    cases h with
    | cons r t =>
      cases r
      rw [List.map_cons, RepL.strs t]
theorem RepL.bls {K : PySem.W.Frag} {H : Hp} : ∀ {vs : List V} {ns : List Bool}, RepL K H vs (ns.map D.bl) → vs = ns.map V.bl
  | _, [], h => by cases h; rfl
  | _, n :: ns, h => by
    cases h with
    | cons r t =>
      cases r
      rw [List.map_cons, RepL.bls t]
/-! ### the store of what may change -/
/-- the class that a name of the module holds -/
def ClsAt (K : PySem.W.Frag) (x : Str) (C : Addr) : Prop := PySem.W.nsIn K mainGlobals x = some (some (.ref C))
inductive Cell where
  | aux | drw (a0 : Addr) | lst (ds : List D) | ins (x : Str) (fs : List (Str × D))
  /-- a dict, while a loop walks it with its object -/
  | dic (lk : Option (Obj × List (Key × V))) (kd : List (Key × D))
  /-- the table of the code objects that the def x makes: each bears the name q -/
  | tab (x q : Str)
  /-- a box of draws: three whole numbers -/
  | box
abbrev Mp := Addr → Option Cell
/-- what never changes: neither in the store nor hidden (Z) -/
def fz (Z H : Hp) (M : Mp) : Hp := fun a => match M a, Z a with
  | none, none => H a
  | _, _ => none
def setM (M : Mp) (a : Addr) (c : Cell) : Mp := fun b => if b = a then some c else M b
theorem setM_same {M : Mp} {a : Addr} {c : Cell} : setM M a c a = some c := if_pos rfl
theorem setM_ne {M : Mp} {a b : Addr} {c : Cell} (h : b ≠ a) : setM M a c b = M b := if_neg h
theorem fz_none {Z H : Hp} {M : Mp} {a : Addr} (h : M a = none) (z : Z a = none) : fz Z H M a = H a := by
  unfold fz
  rw [h, z]
theorem fz_some {Z H : Hp} {M : Mp} {a : Addr} {c : Cell} (h : M a = some c) : fz Z H M a = none := by
  unfold fz
  rw [h]
theorem fz_hid {Z H : Hp} {M : Mp} {a : Addr} {o : HO} (h : Z a = some o) : fz Z H M a = none := by
  unfold fz
  rw [h]
  split <;> first | rfl | contradiction
theorem fz_is {Z H : Hp} {M : Mp} {a : Addr} {o : HO} (h : fz Z H M a = some o) : M a = none ∧ Z a = none ∧ H a = some o := by
  cases q : M a with
  | some c =>
    rw [fz_some q] at h
    cases h
  | none =>
    cases q2 : Z a with
    | some u =>
      rw [fz_hid q2] at h
      cases h
    | none =>
      rw [fz_none q q2] at h
      exact ⟨rfl, rfl, h⟩
theorem fz_to {Z H : Hp} {M : Mp} {a : Addr} {o : HO} (h1 : M a = none) (h2 : Z a = none) (h : H a = some o) : fz Z H M a = some o := by
  rw [fz_none h1 h2]
  exact h
theorem fz_sub {Z H : Hp} {M : Mp} : Same (fz Z H M) H := fun _ _ e => (fz_is e).2.2
def RepF (K : PySem.W.Frag) (H : Hp) (fv : List (Str × V)) (fs : List (Str × D)) : Prop := fv.map (·.1) = fs.map (·.1) ∧ RepL K H (fv.map (·.2)) (fs.map (·.2))
/-- a dict's pairs -/
def RepK (K : PySem.W.Frag) (H : Hp) (kv : List (Key × V)) (kd : List (Key × D)) : Prop := kv.map (·.1) = kd.map (·.1) ∧ RepL K H (kv.map (·.2)) (kd.map (·.2))
def LkAt (lk : Option (Obj × List (Key × V))) (kv : List (Key × V)) (u : HO) : Prop := match lk with
  | none => u = .dK kv
  | some q => q.2 = kv ∧ u = .frz q.1 (.dK kv)
/-- the numbers of the draws -/
def DrawOk (H : Hp) (a a0 : Addr) : Prop := ∃ (cs : List Int) (s : Int), H a = some (.lst [.ref a0, .int s]) ∧ H a0 = some (.lst (cs.map V.int)) ∧ 0 ≤ s ∧ s < 4294967296 ∧ cs.length ≤ 100 ∧ ∀ c ∈ cs, 0 ≤ c
/-- the def x's table at a: what it tells are code objects (F: they never change) of the name q -/
def TabOk (K : PySem.W.Frag) (F H : Hp) (a : Addr) (x q : Str) : Prop := (∃ c, PySem.W.tabIn K x = some (c, a)) ∧ ∃ ps : Array Value, H a = some (.tbl ps) ∧ TriplesOk ps.toList ∧
  ∀ (pos : Pos) (cv : Value), codeAmong pos ps.toList = some cv → ∃ c, cv = .ref c ∧ F c = some (LamX.CodeO c q)
theorem TabOk.go {K : PySem.W.Frag} {F F' H H' : Hp} {a : Addr} {x q : Str} (t : TabOk K F H a x q) (e : Same F F') (ha : ∀ o, H a = some o → H' a = some o) : TabOk K F' H' a x q := by
  obtain ⟨h0, ps, h1, h2, h3⟩ := t
  refine ⟨h0, ps, ha _ h1, h2, fun pos cv hc => ?_⟩
  obtain ⟨c, e1, e2⟩ := h3 pos cv hc
  exact ⟨c, e1, e _ _ e2⟩
def BoxOk (H : Hp) (a : Addr) : Prop := ∃ c s t : Int, H a = some (.lst [.int c, .int s, .int t]) ∧ 0 ≤ c ∧ 0 ≤ s ∧ 0 ≤ t
def CellOk (K : PySem.W.Frag) (Z H : Hp) (M : Mp) (a : Addr) : Cell → Prop
  | .lst ds => ∃ vs, H a = some (.lst vs) ∧ RepL K (fz Z H M) vs ds
  | .drw a0 => M a0 = some .aux ∧ DrawOk H a a0
  | .aux => ∃ o, H a = some o
  | .ins x fs => ∃ C dx fv, ClsAt K x C ∧ H a = some (.ins C dx fv) ∧ RepF K (fz Z H M) fv fs
  | .dic lk kd => ∃ kv u, H a = some u ∧ LkAt lk kv u ∧ RepK K (fz Z H M) kv kd
  | .tab x q => TabOk K (fz Z H M) H a x q
  | .box => BoxOk H a
structure Sat (K : PySem.W.Frag) (Z : Hp) (H : Hp) (M : Mp) : Prop where
  cell : ∀ a c, M a = some c → CellOk K Z H M a c
  zed : ∀ a o, Z a = some o → H a = some o ∧ M a = none
theorem Sat.there {K : PySem.W.Frag} {Z : Hp} {H : Hp} {M : Mp} {a : Addr} {c : Cell} (S : Sat K Z H M) (h : M a = some c) : ∃ o, H a = some o := by
  have q := S.cell a c h
  cases c with
  | aux => exact q
  | drw a0 => obtain ⟨_, cs, s, e, _⟩ := q; exact ⟨_, e⟩
  | lst ds => obtain ⟨vs, e, _⟩ := q; exact ⟨_, e⟩
  | ins x fs => obtain ⟨C, dx, fv, _, e, _⟩ := q; exact ⟨_, e⟩
  | dic lk kd => obtain ⟨_, _, e, _⟩ := q; exact ⟨_, e⟩
  | tab x q0 => obtain ⟨_, ps, e, _⟩ := q; exact ⟨_, e⟩
  | box => obtain ⟨_, _, _, e, _⟩ := q; exact ⟨_, e⟩
theorem Sat.free {K : PySem.W.Frag} {Z : Hp} {H : Hp} {M : Mp} {a : Addr} (S : Sat K Z H M) (h : H a = none) : M a = none := by
  cases q : M a with
  | none => rfl
  | some c =>
    obtain ⟨o, e⟩ := S.there q
    rw [h] at e
    cases e
theorem Sat.freeZ {K : PySem.W.Frag} {Z : Hp} {H : Hp} {M : Mp} {a : Addr} (S : Sat K Z H M) (h : H a = none) : Z a = none := by
  cases q : Z a with
  | none => rfl
  | some c =>
    have e := (S.zed a c q).1
    rw [h] at e
    cases e
theorem RepK.up {K : PySem.W.Frag} {H H' : Hp} {v : List (Key × V)} {d : List (Key × D)} (h : RepK K H v d) (e : Same H H') : RepK K H' v d := ⟨h.1, h.2.up e⟩
theorem RepF.up {K : PySem.W.Frag} {H H' : Hp} {v : List (Str × V)} {d : List (Str × D)} (h : RepF K H v d) (e : Same H H') : RepF K H' v d := ⟨h.1, h.2.up e⟩
/-- a step: the heap and the store behind it -/
structure Go (K : PySem.W.Frag) (Z : Hp) (H : Hp) (M : Mp) (H' : Hp) (M' : Mp) : Prop where
  sat : Sat K Z H' M'
  ex : Same (fz Z H M) (fz Z H' M')
theorem Go.refl {K : PySem.W.Frag} {Z : Hp} {H : Hp} {M : Mp} (S : Sat K Z H M) : Go K Z H M H M := ⟨S, Same.refl _⟩
theorem Go.trans {K : PySem.W.Frag} {Z : Hp} {H H1 H2 : Hp} {M M1 M2 : Mp} (a : Go K Z H M H1 M1) (b : Go K Z H1 M1 H2 M2) : Go K Z H M H2 M2 := ⟨b.sat, a.ex.trans b.ex⟩
/-- a cell whose object stands as it stood -/
theorem CellOk.same {K : PySem.W.Frag} {Z Z' : Hp} {H H' : Hp} {M M' : Mp} {a : Addr} {c : Cell} (q : CellOk K Z H M a c) (ex : Same (fz Z H M) (fz Z' H' M')) (ha : ∀ o, H a = some o → H' a = some o)
    (aux : ∀ b, M b = some .aux → M' b = some .aux ∧ ∀ o, H b = some o → H' b = some o) : CellOk K Z' H' M' a c := by
  cases c with
  | aux =>
    obtain ⟨o, e⟩ := q
    exact ⟨o, ha o e⟩
  | drw a0 =>
    obtain ⟨m0, cs, s, e, e0, r⟩ := q
    obtain ⟨m1, k⟩ := aux a0 m0
    exact ⟨m1, cs, s, ha _ e, k _ e0, r⟩
  | lst ds =>
    obtain ⟨vs, e, r⟩ := q
    exact ⟨vs, ha _ e, r.up ex⟩
  | ins x fs =>
    obtain ⟨C, dx, fv, cl, e, r⟩ := q
    exact ⟨C, dx, fv, cl, ha _ e, r.up ex⟩
  | dic lk kd =>
    obtain ⟨kv, u, e, l, r⟩ := q
    exact ⟨kv, u, ha _ e, l, r.up ex⟩
  | tab x q0 => exact TabOk.go q ex ha
  | box =>
    obtain ⟨c, s, t, e, r⟩ := q
    exact ⟨c, s, t, ha _ e, r⟩
/-- a new object that never changes -/
theorem Go.laid {K : PySem.W.Frag} {Z : Hp} {H : Hp} {M : Mp} {p : Addr} {o : HO} (S : Sat K Z H M) (hp : H p = none) : Go K Z H M (upd H p o) M ∧ fz Z (upd H p o) M p = some o := by
  have hm := S.free hp
  have hz := S.freeZ hp
  have up : ∀ b u, H b = some u → upd H p o b = some u := fun b u e => by
    rw [upd_ne (ne_of_none e hp)]
    exact e
  have ex : Same (fz Z H M) (fz Z (upd H p o) M) := fun b u e => fz_to (fz_is e).1 (fz_is e).2.1 (up b u (fz_is e).2.2)
  exact ⟨⟨⟨fun a c h => (S.cell a c h).same ex (up a) fun b e => ⟨e, up b⟩, fun a u h => ⟨up a u (S.zed a u h).1, (S.zed a u h).2⟩⟩, ex⟩, fz_to hm hz upd_same⟩
/-- a list of the store: new, or changed -/
theorem Go.putL {K : PySem.W.Frag} {Z : Hp} {H : Hp} {M : Mp} {p : Addr} {vs : List V} {ds : List D} (S : Sat K Z H M) (hp : (H p = none) ∨ ∃ es, M p = some (.lst es)) (r : RepL K (fz Z H M) vs ds) : Go K Z H M (upd H p (.lst vs)) (setM M p (.lst ds)) := by
  have hz : Z p = none := by
    rcases hp with h | ⟨es, h⟩
    · exact S.freeZ h
    · cases q : Z p with
      | none => rfl
      | some u =>
        have e := (S.zed p u q).2
        rw [h] at e
        cases e
  have hf : ∀ u, fz Z H M p ≠ some u := fun u e => by
    obtain ⟨e1, _, e2⟩ := fz_is e
    rcases hp with h | ⟨es, h⟩
    · rw [h] at e2
      cases e2
    · rw [h] at e1
      cases e1
  have hx : M p ≠ some .aux := fun e => by
    rcases hp with h | ⟨es, h⟩
    · obtain ⟨o, e'⟩ := S.there e
      rw [h] at e'
      cases e'
    · rw [h] at e
      cases e
  have ex : Same (fz Z H M) (fz Z (upd H p (.lst vs)) (setM M p (.lst ds))) := fun b u e => by
    have hb : b ≠ p := fun z => by
      subst z
      exact hf u e
    obtain ⟨e1, e2, e3⟩ := fz_is e
    exact fz_to (by rw [setM_ne hb]; exact e1) e2 (by rw [upd_ne hb]; exact e3)
  have aux : ∀ b, M b = some .aux → setM M p (.lst ds) b = some .aux ∧ ∀ o, H b = some o → upd H p (.lst vs) b = some o := fun b e => by
    have hb : b ≠ p := fun z => by
      subst z
      exact hx e
    exact ⟨by rw [setM_ne hb]; exact e, fun o q => by rw [upd_ne hb]; exact q⟩
  refine ⟨⟨fun a c h => ?_, fun a u h => ?_⟩, ex⟩
  · by_cases ha : a = p
    · subst ha
      rw [setM_same] at h
      cases h
      exact ⟨vs, upd_same, r.up ex⟩
    · rw [setM_ne ha] at h
      exact (S.cell a c h).same ex (fun o q => by rw [upd_ne ha]; exact q) aux
  · have ha : a ≠ p := fun z => by
      subst z
      rw [hz] at h
      cases h
    exact ⟨by rw [upd_ne ha]; exact (S.zed a u h).1, by rw [setM_ne ha]; exact (S.zed a u h).2⟩
/-- any cell: new, or changed -/
theorem Go.put {K : PySem.W.Frag} {Z : Hp} {H : Hp} {M : Mp} {p : Addr} {o : HO} {c : Cell} (S : Sat K Z H M) (hp : (H p = none) ∨ ∃ c0, M p = some c0 ∧ c0 ≠ .aux) (ok : Same (fz Z H M) (fz Z (upd H p o) (setM M p c)) → CellOk K Z (upd H p o) (setM M p c) p c) : Go K Z H M (upd H p o) (setM M p c) := by
  have hz : Z p = none := by
    rcases hp with h | ⟨c0, h, _⟩
    · exact S.freeZ h
    · cases q : Z p with
      | none => rfl
      | some u =>
        have e := (S.zed p u q).2
        rw [h] at e
        cases e
  have hf : ∀ u, fz Z H M p ≠ some u := fun u e => by
    obtain ⟨e1, _, e2⟩ := fz_is e
    rcases hp with h | ⟨c0, h, _⟩
    · rw [h] at e2
      cases e2
    · rw [h] at e1
      cases e1
  have hx : M p ≠ some .aux := fun e => by
    rcases hp with h | ⟨c0, h, n⟩
    · obtain ⟨o, e'⟩ := S.there e
      rw [h] at e'
      cases e'
    · rw [h] at e
      cases e
      exact n rfl
  have ex : Same (fz Z H M) (fz Z (upd H p o) (setM M p c)) := fun b u e => by
    have hb : b ≠ p := fun z => by
      subst z
      exact hf u e
    obtain ⟨e1, e2, e3⟩ := fz_is e
    exact fz_to (by rw [setM_ne hb]; exact e1) e2 (by rw [upd_ne hb]; exact e3)
  have aux : ∀ b, M b = some .aux → setM M p c b = some .aux ∧ ∀ u, H b = some u → upd H p o b = some u := fun b e => by
    have hb : b ≠ p := fun z => by
      subst z
      exact hx e
    exact ⟨by rw [setM_ne hb]; exact e, fun u q => by rw [upd_ne hb]; exact q⟩
  refine ⟨⟨fun a c' h => ?_, fun a u h => ?_⟩, ex⟩
  · by_cases ha : a = p
    · subst ha
      rw [setM_same] at h
      cases h
      exact ok ex
    · rw [setM_ne ha] at h
      exact (S.cell a c' h).same ex (fun u q => by rw [upd_ne ha]; exact q) aux
  · have ha : a ≠ p := fun z => by
      subst z
      rw [hz] at h
      cases h
    exact ⟨by rw [upd_ne ha]; exact (S.zed a u h).1, by rw [setM_ne ha]; exact (S.zed a u h).2⟩
/-- a draw: the two lists of the numbers change -/
theorem Go.drawn {K : PySem.W.Frag} {Z : Hp} {H H' : Hp} {M : Mp} {a a0 : Addr} (S : Sat K Z H M) (hp : M a = some (.drw a0)) (k : ∀ b o, b ≠ a → b ≠ a0 → H b = some o → H' b = some o) (q : DrawOk H' a a0) : Go K Z H M H' M := by
  obtain ⟨m0, _⟩ := S.cell a _ hp
  have ex : Same (fz Z H M) (fz Z H' M) := fun b u e => by
    obtain ⟨e1, e2, e3⟩ := fz_is e
    have h1 : b ≠ a := fun z => by
      subst z
      rw [hp] at e1
      cases e1
    have h2 : b ≠ a0 := fun z => by
      subst z
      rw [m0] at e1
      cases e1
    exact fz_to e1 e2 (k b _ h1 h2 e3)
  refine ⟨⟨fun b c h => ?_, fun b u h => ?_⟩, ex⟩
  · by_cases h1 : b = a
    · subst h1
      rw [hp] at h
      cases h
      exact ⟨m0, q⟩
    · by_cases h2 : b = a0
      · subst h2
        rw [m0] at h
        cases h
        obtain ⟨cs', s', _, e0', _⟩ := q
        exact ⟨_, e0'⟩
      · cases c with
        | drw b0 =>
          obtain ⟨n0, cs, s, e, e0, r⟩ := S.cell b _ h
          refine ⟨n0, ?_⟩
          by_cases h3 : b0 = a0
          · subst h3
            obtain ⟨cs', s', _, e0', _, _, l', g'⟩ := q
            exact ⟨cs', s, k b _ h1 h2 e, e0', r.1, r.2.1, l', g'⟩
          · have h4 : b0 ≠ a := fun z => by
              subst z
              rw [hp] at n0
              cases n0
            exact ⟨cs, s, k b _ h1 h2 e, k b0 _ h4 h3 e0, r⟩
        | lst ds =>
          obtain ⟨vs, e, r⟩ := S.cell b _ h
          exact ⟨vs, k b _ h1 h2 e, r.up ex⟩
        | aux =>
          obtain ⟨o, e⟩ := S.cell b _ h
          exact ⟨o, k b _ h1 h2 e⟩
        | ins x fs =>
          obtain ⟨C, dx, fv, cl, e, r⟩ := S.cell b _ h
          exact ⟨C, dx, fv, cl, k b _ h1 h2 e, r.up ex⟩
        | dic lk kd =>
          obtain ⟨kv, u, e, l, r⟩ := S.cell b _ h
          exact ⟨kv, u, k b _ h1 h2 e, l, r.up ex⟩
        | tab x q0 => exact TabOk.go (S.cell b _ h) ex (fun o e => k b o h1 h2 e)
        | box =>
          obtain ⟨c, s, t, e, r⟩ := S.cell b _ h
          exact ⟨c, s, t, k b _ h1 h2 e, r⟩
  · obtain ⟨e1, e2⟩ := S.zed b u h
    have h1 : b ≠ a := fun z => by
      subst z
      rw [hp] at e2
      cases e2
    have h2 : b ≠ a0 := fun z => by
      subst z
      rw [m0] at e2
      cases e2
    exact ⟨k b _ h1 h2 e1, e2⟩
/-- an object is hidden while something else runs; it is another one then, or is shown again -/
theorem Sat.swap {K : PySem.W.Frag} {Z Z' : Hp} {H H' : Hp} {M : Mp} {p : Addr} (S : Sat K Z H M) (hm : M p = none) (hf : fz Z H M p = none) (hH : ∀ b, b ≠ p → H' b = H b) (hZ : ∀ b, b ≠ p → Z' b = Z b) (hq : ∀ o, Z' p = some o → H' p = some o) : Sat K Z' H' M ∧ Same (fz Z H M) (fz Z' H' M) := by
  have ex : Same (fz Z H M) (fz Z' H' M) := fun b v e => by
    have hb : b ≠ p := fun z => by
      subst z
      rw [hf] at e
      cases e
    obtain ⟨e1, e2, e3⟩ := fz_is e
    exact fz_to e1 (by rw [hZ b hb]; exact e2) (by rw [hH b hb]; exact e3)
  have ne : ∀ {b : Addr} {c : Cell}, M b = some c → b ≠ p := fun {b c} e z => by
    subst z
    rw [hm] at e
    cases e
  refine ⟨⟨fun a c h => (S.cell a c h).same ex (fun o q => by rw [hH a (ne h)]; exact q) fun b e => ⟨e, fun o q => by rw [hH b (ne e)]; exact q⟩, fun a v h => ?_⟩, ex⟩
  by_cases ha : a = p
  · subst ha
    exact ⟨hq v h, hm⟩
  · rw [hZ a ha] at h
    exact ⟨by rw [hH a ha]; exact (S.zed a v h).1, (S.zed a v h).2⟩
/-! ### readings over data -/
abbrev En := List (Option D)
abbrev KD := D → Mp → Prop
abbrev WE := En → Mp → KD → Prop
abbrev WT := En → Mp → (Bool → Mp → Prop) → Prop
abbrev WA := En → Mp → (List D → Mp → Prop) → Prop
/-- what is wished of what is raised: its class, its dict, its fields' names and values, the environment -/
abbrev XV := List Str × List D
abbrev XR := Str → Addr → XV → En → Mp → Prop
abbrev XF := Str → XV → Mp → Prop
/-- .. behind a def -/
def lx (R : XF) : XR := fun x _ fs _ M => R x fs M
abbrev WX3 := Value → Option Addr → L2.St → Hp → Prop
structure Ends3 where
  nx : En → Mp → Prop
  rt : KD
  bk : En → Mp → Prop := fun _ _ => False
  ct : En → Mp → Prop := fun _ _ => False
  xr : XR := fun _ _ _ _ _ => False
abbrev WS := Ends3 → En → Mp → Prop
/-- the slots hold what the environment says -/
def RelS (K : PySem.W.Frag) (Hf : Hp) (σ : L2.St) (ρ : En) : Prop := σ.length = ρ.length ∧ ∀ (i : Nat) (d : D), ρ[i]? = some (some d) → ∃ v, σ[i]? = some (some v) ∧ Rep K Hf v d
theorem RelS.up {K : PySem.W.Frag} {H H' : Hp} {σ : L2.St} {ρ : En} (h : RelS K H σ ρ) (e : Same H H') : RelS K H' σ ρ := ⟨h.1, fun i d q => by
  obtain ⟨v, a, b⟩ := h.2 i d q
  exact ⟨v, a, b.up e⟩⟩
theorem RelS.set {K : PySem.W.Frag} {H : Hp} {σ : L2.St} {ρ : En} {v : V} {d : D} (h : RelS K H σ ρ) (j : Nat) (r : Rep K H v d) : RelS K H (σ.set j (some v)) (ρ.set j (some d)) := by
  refine ⟨by rw [List.length_set, List.length_set]; exact h.1, fun i e q => ?_⟩
  by_cases hij : i = j
  · subst hij
    have hl : i < ρ.length := by
      rcases Nat.lt_or_ge i ρ.length with z | z
      · exact z
      · rw [List.getElem?_eq_none (by rw [List.length_set]; exact z)] at q
        cases q
    rw [List.getElem?_set_self hl] at q
    cases q
    exact ⟨v, List.getElem?_set_self (by rw [h.1]; exact hl), r⟩
  · rw [List.getElem?_set_ne (Ne.symm hij)] at q
    obtain ⟨u, a, b⟩ := h.2 i e q
    exact ⟨u, by rw [List.getElem?_set_ne (Ne.symm hij)]; exact a, b⟩
structure R3 (K : PySem.W.Frag) (Z : Hp) (ρ : En) (M : Mp) (σ : L2.St) (H : Hp) : Prop where
  sat : Sat K Z H M
  env : RelS K (fz Z H M) σ ρ
theorem R3.go {K : PySem.W.Frag} {Z : Hp} {ρ : En} {M M' : Mp} {σ : L2.St} {H H' : Hp} (r : R3 K Z ρ M σ H) (g : Go K Z H M H' M') : R3 K Z ρ M' σ H' := ⟨g.sat, r.env.up g.ex⟩
theorem R3.refl {K : PySem.W.Frag} {Z : Hp} {ρ : En} {M : Mp} {σ : L2.St} {H : Hp} (r : R3 K Z ρ M σ H) : Go K Z H M H M := Go.refl r.sat
def SimE (K : PySem.W.Frag) (t : TE) (w : WE) : Prop := ∀ (Z : Hp) (ρ : En) (M : Mp) (σ : L2.St) (H : Hp) (Q : KD) (Q' : VK), R3 K Z ρ M σ H → w ρ M Q → (∀ v d H' M', Go K Z H M H' M' → Rep K (fz Z H' M') v d → Q d M' → Q' v H') → t σ H Q'
def SimT (K : PySem.W.Frag) (t : TT) (w : WT) : Prop := ∀ (Z : Hp) (ρ : En) (M : Mp) (σ : L2.St) (H : Hp) (Q : Bool → Mp → Prop) (Q' : Bool → Hp → Prop), R3 K Z ρ M σ H → w ρ M Q → (∀ b H' M', Go K Z H M H' M' → Q b M' → Q' b H') → t σ H Q'
def SimA (K : PySem.W.Frag) (t : TA) (w : WA) : Prop := ∀ (Z : Hp) (ρ : En) (M : Mp) (σ : L2.St) (H : Hp) (Q : List D → Mp → Prop) (Q' : List V → Hp → Prop), R3 K Z ρ M σ H → w ρ M Q → (∀ v d H' M', Go K Z H M H' M' → RepL K (fz Z H' M') v d → Q d M' → Q' v H') → t σ H Q'
structure EndsRel (K : PySem.W.Frag) (Z : Hp) (E : WX3) (H : Hp) (M : Mp) (D3 : Ends3) (D : Ends) : Prop where
  nx : ∀ ρ' M' σ' H', R3 K Z ρ' M' σ' H' → Go K Z H M H' M' → D3.nx ρ' M' → D.nx σ' H'
  rt : ∀ v d H' M', Go K Z H M H' M' → Rep K (fz Z H' M') v d → D3.rt d M' → D.rt v H'
  bk : ∀ ρ' M' σ' H', R3 K Z ρ' M' σ' H' → Go K Z H M H' M' → D3.bk ρ' M' → D.bk σ' H'
  ct : ∀ ρ' M' σ' H', R3 K Z ρ' M' σ' H' → Go K Z H M H' M' → D3.ct ρ' M' → D.ct σ' H'
  xr : ∀ x C dx vs (fs : XV) ρ' σ' H' M', ClsAt K x C → R3 K Z ρ' M' σ' H' → Go K Z H M H' M' → fz Z H' M' dx = some (.xd (fs.1.zip vs)) → fs.1.length = vs.length → RepL K (fz Z H' M') vs fs.2 → D3.xr x dx fs ρ' M' → E (.ref C) (some dx) σ' H'
theorem EndsRel.go {K : PySem.W.Frag} {Z : Hp} {E : WX3} {H H' : Hp} {M M' : Mp} {D3 : Ends3} {D : Ends} (r : EndsRel K Z E H M D3 D) (g : Go K Z H M H' M') : EndsRel K Z E H' M' D3 D :=
  ⟨fun ρ N σ J a b c => r.nx ρ N σ J a (g.trans b) c, fun v d J N a b c => r.rt v d J N (g.trans a) b c, fun ρ N σ J a b c => r.bk ρ N σ J a (g.trans b) c, fun ρ N σ J a b c => r.ct ρ N σ J a (g.trans b) c,
    fun x C dx vs fs ρ σ J N k q a b l c z => r.xr x C dx vs fs ρ σ J N k q (g.trans a) b l c z⟩
def SimS (K : PySem.W.Frag) (E : WX3) (t : TS) (w : WS) : Prop := ∀ (Z : Hp) (D3 : Ends3) (ρ : En) (M : Mp) (σ : L2.St) (H : Hp) (D : Ends), R3 K Z ρ M σ H → w D3 ρ M → EndsRel K Z E H M D3 D → t D σ H
structure DE (X : Cx) (e : Expr) (t : TE) (w : WE) : Prop where
  pe : PE X e t
  sm : SimE X.K t w
structure DT (X : Cx) (e : Expr) (t : TT) (w : WT) : Prop where
  pe : PT X e t
  sm : SimT X.K t w
structure DW (X : Cx) (e : Expr) (t : TT) (w : WT) : Prop where
  pe : PW X e t
  sm : SimT X.K t w
structure DA (X : Cx) (e : List Expr) (t : TA) (w : WA) : Prop where
  pe : PA X e t
  sm : SimA X.K t w
structure DS (X : Cx) (E : WX3) (st : Stmt) (t : TS) (w : WS) : Prop where
  pe : PS X st t
  sm : SimS X.K E t w
structure DSs (X : Cx) (E : WX3) (st : List Stmt) (t : TS) (w : WS) : Prop where
  pe : PSs X st t
  sm : SimS X.K E t w
end L3
namespace L3
open PySem L2
open PyProof.Rows (envOfC)
/-! ### defs, called where nothing is being shown -/
structure FnG (P : Program) (w : World) (K : PySem.W.Frag) (mg : Str → Option Value) (base : Heap) (k : Nat) (f : Addr) (fd : FuncData) (ps : List Str) (sp : Sp) : Prop where
  len : ∀ vs H Q E, sp vs H Q E → vs.length = ps.length
  run : ∀ (A : Around) (outer : List Env) (s : Shared) (H : Hp) (args : Args) (us : List Value) (vs : List V) (Q : VK) (E : XK), A.guards = some [] → Room k A → Env0 P w K mg base A outer s H → BindsTo s fd args (ps.zip us) → Vals vs us → sp vs H Q E →
    codeAny (model P w) A (.call (.ref f) args) (CR (L2.CX P w) outer P w H s Q E) s
theorem FnG.mono {P : Program} {w : World} {K : PySem.W.Frag} {mg : Str → Option Value} {base : Heap} {j k : Nat} {f : Addr} {fd : FuncData} {ps : List Str} {sp : Sp} (F : FnG P w K mg base j f fd ps sp) (h : j ≤ k) : FnG P w K mg base k f fd ps sp :=
  ⟨F.len, fun A o s H ar us vs Q E g hr => F.run A o s H ar us vs Q E g (hr.mono h)⟩
section
variable {P : Program} {w : World} {K : PySem.W.Frag} {mg : Str → Option Value} {base : Heap}
theorem fn_g {x qual : Str} {st : Stmt} {f : Addr} {fd : FuncData} {N ps : List Str} {k : Nat} {sp : Sp} (F : Fun K x qual st f fd) (S : FnScope N ps (defScope st)) (len : ∀ vs H Q E, sp vs H Q E → vs.length = ps.length)
    (body : ∀ (cdv : Value) (A : Around) (outer : List Env) (s : Shared) (H : Hp) (vs : List V) (Q : VK) (E : XK), A.guards = some [] → Room k (A.deeper (envOfC qual (defScope st) s.heap.objs.size f cdv)) → sp vs H Q E →
      ∃ t, PSs (cxOf (L2.CX P w) P w K mg base N qual (defScope st) f cdv A outer s H E) (defBody st) t ∧ t { nx := fun _ J => Q .non J, rt := Q } (L2.start N vs) H) : FnG P w K mg base (k + 1) f fd ps sp := by
  obtain ⟨oc, od, kV, doc, pm, an, cdv, ct, osl, rfl, lk, hcd⟩ := F.ex
  refine ⟨len, fun A outer s H args us vs Q E gd hr e0 hb r hs => ?_⟩
  have hlen := len _ _ _ _ hs
  have kin : K.In s.heap := e0.mod.kin.keeps fun b o e => (e0.bs b o e).1
  have nol : s.heap.NoLimit := e0.mod.nolimit.keeps fun b o e => (e0.bs b o e).1
  have kinds : ∀ y ∈ ps.zip us, (defScope st).names.lookup y.1 = some .local ∨ ((defScope st).names.lookup y.1 = some .cell ∧ ((cellsFrom (s.heap.objs.size + 1) (defScope st).names []).lookup y.1).isSome = true) := fun ⟨n, v⟩ hy => by
    rcases S.par n (List.of_mem_zip hy).1 with z | z
    · exact .inl z
    · exact .inr ⟨z, PySem.W.cellsFrom_some _ _ _ (.inl z)⟩
  refine codeAny_call_function hr.depth (kin _ _ lk) rfl S.co S.gen rfl (PySem.W.codeRec_of kin hcd) (hb _ _ _ _ ?_)
  refine wpAny_newFunctionEnv_cells S.kind kinds fun env he s1 c => ?_
  subst he
  refine ⟨nol.keeps c.toInCall.keep, codeAny_func ?_⟩
  obtain ⟨t, ht, hq⟩ := body cdv A outer s H vs Q E gd (hr.deeper _) hs
  have I : Inv (cxOf (L2.CX P w) P w K mg base N qual (defScope st) f cdv A outer s H E) [] (L2.start N vs) H s1 := inv_start S hr.hd e0 hlen r c
  refine wpAny_mono (ht.run [] s1 (L2.start N vs) H _ I hq) (fun fl s' hz => ?_) fun e s' hz => hz
  have fin : ∀ {σ' : L2.St} {H' : Hp} {v : V} {u : Value}, Inv (cxOf (L2.CX P w) P w K mg base N qual (defScope st) f cdv A outer s H E) [] σ' H' s' → RelV v u → Q v H' → CE outer P w H s Q u s' :=
    fun {σ' H' v u} J rv z => ⟨v, H', J.os, J.bare, J.base, J.hok, rv, z⟩
  cases fl with
  | ret u =>
    obtain ⟨v, σ', H', J, rv, z⟩ := hz
    exact fin J rv z
  | next =>
    obtain ⟨σ', H', J, z⟩ := hz
    exact fin (v := V.non) (u := Value.none) J rfl z
  | brk => exact (hz.elim fun _ h => h.elim fun _ h => h.2).elim
  | cont => exact (hz.elim fun _ h => h.elim fun _ h => h.2).elim
end
section
variable {X : Cx} {k : Nat} {f C : Addr} {fd : FuncData} {ps : List Str} {sp : Sp} {dvs : List V} {ds : List Value} {E : XK} {x m : Str} {p pos apos : Pos} {e o : Expr} {es : List Expr} {ta : TE} {t : TA}
theorem run_g {pins : List (Addr × Obj)} {σ : L2.St} {H : Hp} {s : Shared} {Q : VK} {us ws : List Value} {vs : List V} {kw : List (Str × Value)} (F : FnG X.prog X.w X.K X.mg X.base k f fd ps sp) (hr : Room k X.A) (gd : X.A.guards = some []) (hx : Passes (L2.CX X.prog X.w) X E)
    (I : Inv X pins σ H s) (hb : BindsTo s fd ⟨us, kw⟩ (ps.zip ws)) (r : Vals vs ws) (h : sp vs H Q E) : wpAny (model X.prog X.w) X.A (call (.ref f) us kw) (EP X pins σ Q) X.xe s := by
  refine wpAny_call (codeAny_mono (F.run X.A X.stack s H ⟨us, kw⟩ ws vs Q E gd hr I.env0 hb r h) fun rr s' hq => ?_)
  cases rr with
  | error er => exact hx pins σ H s er s' I hq
  | ok fl =>
    cases fl with
    | ret u => exact I.after hq
    | next => exact hq.elim
    | brk => exact hq.elim
    | cont => exact hq.elim
def tCallG (sp : Sp) (dvs : List V) (E : XK) (t : TA) : TE := fun σ H Q => t σ H fun vs J => sp (vs ++ dvs) J Q E
theorem pe_callG (F : FnG X.prog X.w X.K X.mg X.base k f fd ps sp) (hr : Room k X.A) (gd : X.A.guards = some []) (hg : Gl X x) (hm : X.mg x = some (.ref f)) (hk : PySem.W.keepIn X.K (.ref f) = true) (hb : Binds X.K fd ps ds) (hd : Vals dvs ds) (hx : Passes (L2.CX X.prog X.w) X E)
    (ha : PA X (e :: es) t) (hdb : (x == ("__debug__" : Str)) = false := by decide) (he : starEach (e :: es) X.env = (false, eval e X.env) :: starEach es X.env := by rfl) (hpl : (backTo pos (starEach es X.env)).any (·.1) = false := by rfl) :
    PE X (.Call (.Name x p) (e :: es) [] pos) (tCallG sp dvs E t) := by
  constructor
  intro pins s σ H Q I h
  refine wpAny_Call_Name_kw (ld_glob I hg hm ?_ hdb)
  refine PySem.W.callWith_K (h₀ := X.base) I.ok.mod.kin hk (thn (ha.run pos pins s σ H _ I h) fun us s1 ⟨vs, J, I1, r, q⟩ => ⟨I1.kIn, ?_⟩) he hpl
  have r2 : Vals (vs ++ dvs) (us ++ ds) := r.append hd
  have hl : (us ++ ds).length = ps.length := by rw [← r2.length]; exact F.len _ _ _ _ q
  exact run_g (us := us) (kw := []) F hr gd hx I1 (hb s1 us I1.kIn hl) r2 q
/-- the parameters' values, each by its place among what is written: first the positional ones, then the keywords' -/
def perm (idx : List Nat) (vs zs : List V) : List V := idx.map fun i => (vs ++ zs).getD i .non
def permU (idx : List Nat) (vs zs : List Value) : List Value := idx.map fun i => (vs ++ zs).getD i .none
theorem perm_rel (idx : List Nat) {vs zs : List V} {us ws : List Value} (r : Vals vs us) (q : Vals zs ws) : Vals (perm idx vs zs) (permU idx us ws) := by
  have ra := r.append q
  unfold perm permU
  induction idx with
  | nil => exact .nil
  | cons i is ih =>
    refine .cons ?_ ih
    show RelV ((vs ++ zs).getD i .non) ((us ++ ws).getD i .none)
    rw [List.getD_eq_getElem?_getD, List.getD_eq_getElem?_getD]
    cases e : (vs ++ zs)[i]? with
    | none =>
      rw [ra.none_of e]
      rfl
    | some v =>
      obtain ⟨u, h1, h2⟩ := ra.get e
      rw [h1]
      exact h2
/-- how a call with keywords binds -/
def KB (K : PySem.W.Frag) (fd : FuncData) (ps : List Str) (n : Nat) (ks : List Str) (idx : List Nat) : Prop := ∀ (s : Shared) (us ws : List Value), K.In s.heap → us.length = n → ws.length = ks.length → BindsTo s fd ⟨us, ks.zip ws⟩ (ps.zip (permU idx us ws))
def tCallGK (n m : Nat) (idx : List Nat) (sp : Sp) (E : XK) (t tk : TA) : TE := fun σ H Q => t σ H fun vs J => tk σ J fun zs J2 => vs.length = n ∧ zs.length = m ∧ sp (perm idx vs zs) J2 Q E
theorem pe_callGK0 {ks : List Str} {kws : List Keyword} {tk : TA} {idx : List Nat} (F : FnG X.prog X.w X.K X.mg X.base k f fd ps sp) (hr : Room k X.A) (gd : X.A.guards = some []) (hg : Gl X x) (hm : X.mg x = some (.ref f))
    (hk : PySem.W.keepIn X.K (.ref f) = true) (hb : KB X.K fd ps 0 ks idx) (hx : Passes (L2.CX X.prog X.w) X E)
    (hkw : PK X kws tk) (hall : (backToKw pos (keywordEach kws X.env)).all (·.1.isSome) = true := by rfl) (hks : (backToKw pos (keywordEach kws X.env)).filterMap (·.1) = ks := by rfl)
    (hdb : (x == ("__debug__" : Str)) = false := by decide)
    (hpl : ((backTo pos (starEach [] X.env)).any (·.1) || (backToKw pos (keywordEach kws X.env)).any (·.1.isNone)) = false := by rfl) :
    PE X (.Call (.Name x p) [] kws pos) (tCallGK 0 ks.length idx sp E tNil tk) := by
  constructor
  intro pins s σ H Q I h
  refine wpAny_Call_Name_kw (ld_glob I hg hm ?_ hdb)
  refine PySem.W.callWith_KW0 (h₀ := X.base) I.ok.mod.kin hk hall ?_ hpl
  refine thn (hkw.run pos pins s σ H _ I h) fun ws s2 ⟨zs, H2, I2, rz, l1, l2, q2⟩ => ⟨I2.kIn, ?_⟩
  rw [hks]
  have a2 : ws.length = ks.length := by rw [← rz.length]; exact l2
  exact run_g (us := []) F hr gd hx I2 (hb s2 [] ws I2.kIn rfl a2) (perm_rel idx .nil rz) q2
end
/-! ### contracts over data -/
abbrev Fs := List D → Mp → KD → XF → Prop
def lift (K : PySem.W.Frag) (F : Fs) : Sp := fun vs H Q E => ∃ (Z : Hp) (ds : List D) (M : Mp) (Qd : KD) (Rd : XF), Sat K Z H M ∧ RepL K (fz Z H M) vs ds ∧ F ds M Qd Rd ∧
  (∀ v d H' M', Go K Z H M H' M' → Rep K (fz Z H' M') v d → Qd d M' → Q v H') ∧ (∀ x C dx vs (fs : XV) H' M', ClsAt K x C → Go K Z H M H' M' → fz Z H' M' dx = some (.xd (fs.1.zip vs)) → fs.1.length = vs.length → RepL K (fz Z H' M') vs fs.2 → Rd x fs M' → E (.ref C) (some dx) H')
/-- the environment at a def's entry -/
def startE (n : Nat) (ds : List D) : En := ds.map some ++ List.replicate (n - ds.length) none
theorem start_rel {K : PySem.W.Frag} {H : Hp} {N : List Str} {vs : List V} {ds : List D} (r : RepL K H vs ds) : RelS K H (L2.start N vs) (startE N.length ds) := by
  unfold L2.start startE
  refine ⟨?_, fun i d e => ?_⟩
  · rw [List.length_append, List.length_append, List.length_map, List.length_map, List.length_replicate, List.length_replicate, r.len]
  · have hl := r.len
    by_cases hi : i < ds.length
    · rw [List.getElem?_append_left (by rw [List.length_map]; exact hi), List.getElem?_map] at e
      cases q : ds[i]? with
      | none =>
        rw [q] at e
        cases e
      | some d' =>
        rw [q] at e
        obtain rfl : d' = d := Option.some.inj (Option.some.inj e)
        obtain ⟨v, h1, h2⟩ := r.get q
        refine ⟨v, ?_, h2⟩
        rw [List.getElem?_append_left (by rw [List.length_map, hl]; exact hi), List.getElem?_map, h1]
        rfl
    · rw [List.getElem?_append_right (by rw [List.length_map]; omega), List.getElem?_replicate] at e
      split at e <;> cases e
def lw (E : XK) : WX3 := fun cls d _ H => E cls d H
section
variable {P : Program} {w : World} {K : PySem.W.Frag} {mg : Str → Option Value} {base : Heap}
theorem ok_fn {x qual : Str} {st : Stmt} {f : Addr} {fd : FuncData} {N ps : List Str} {k : Nat} {F : Fs} (Fn : Fun K x qual st f fd) (S : FnScope N ps (defScope st)) (len : ∀ ds M Q E, F ds M Q E → ds.length = ps.length)
    (body : ∀ (cdv : Value) (A : Around) (outer : List Env) (s : Shared) (H : Hp) (E : XK), A.guards = some [] → Room k (A.deeper (envOfC qual (defScope st) s.heap.objs.size f cdv)) →
      ∃ t wr, DSs (cxOf (L2.CX P w) P w K mg base N qual (defScope st) f cdv A outer s H E) (lw E) (defBody st) t wr ∧ ∀ ds M Q R, F ds M Q R → wr { nx := fun _ M' => Q .non M', rt := Q, xr := lx R } (startE N.length ds) M) : FnG P w K mg base (k + 1) f fd ps (lift K F) := by
  refine fn_g Fn S (fun vs H Q E h => ?_) (fun cdv A outer s H vs Q E gd hr h => ?_)
  · obtain ⟨Z, ds, M, Qd, Rd, _, r, q, _⟩ := h
    rw [r.len]
    exact len _ _ _ _ q
  · obtain ⟨Z, ds, M, Qd, Rd, sat, r, q, kq, kr⟩ := h
    obtain ⟨t, wr, hd, hw⟩ := body cdv A outer s H E gd hr
    refine ⟨t, hd.pe, hd.sm _ _ _ _ _ _ _ ⟨sat, start_rel r⟩ (hw ds M _ _ q) ⟨fun ρ' M' σ' H' _ g z => kq _ _ _ _ g .non z, fun v d H' M' g rp z => kq v d H' M' g rp z, fun _ _ _ _ _ _ z => z.elim, fun _ _ _ _ _ _ z => z.elim, fun x C dx vs fs ρ' σ' H' M' ca _ g e1 l rf z => kr x C dx vs fs H' M' ca g e1 l rf z⟩⟩
end
end L3
namespace L3
open PySem L2
/-! ### what can be shown, dicts too: only a dict must not be the table of modules -/
mutual
inductive RdD (h : Heap) : Value → PyData → Prop
  | non : RdD h .none .none
  | bl (b : Bool) : RdD h (.bool b) (.bool b)
  | int (i : Int) (t : Tok) : RdD h (.int i t) (.int i)
  | str (x : Str) (t : Tok) : RdD h (.str x t) (.str x)
  | lst {a : Addr} {o : Obj} {vs : Array Value} {n : Nat} {ds : List PyData} (g : h.get? a = some o) (c : o.cls = .type "list") (e : o.data = .seq vs n) (r : RdDs h vs.toList ds) : RdD h (.ref a) (.list ds)
  | tup {a : Addr} {o : Obj} {vs : Array Value} {n : Nat} {ds : List PyData} (g : h.get? a = some o) (c : o.cls = .type "tuple") (e : o.data = .seq vs n) (r : RdDs h vs.toList ds) : RdD h (.ref a) (.tuple ds)
  | dct {a : Addr} {o : Obj} {es : Array DictEntry} {n : Nat} {ps : List (PyData × PyData)} (g : h.get? a = some o) (c : o.cls = .type "dict") (e : o.data = .dict es n) (m : (a == sysModules) = false)
      (rk : RdDs h (es.toList.map (·.key)) (ps.map (·.1))) (rv : RdDs h (es.toList.map (·.val)) (ps.map (·.2))) : RdD h (.ref a) (.dict ps)
inductive RdDs (h : Heap) : List Value → List PyData → Prop
  | nil : RdDs h [] []
  | cons {v : Value} {vs : List Value} {d : PyData} {ds : List PyData} (r : RdD h v d) (rs : RdDs h vs ds) : RdDs h (v :: vs) (d :: ds)
end
mutual
theorem RdD.reads {h : Heap} : ∀ {v : Value} {d : PyData}, RdD h v d → ∃ as, Reads h v d as
  | _, _, .non => ⟨_, .none⟩
  | _, _, .bl b => ⟨_, .bool b⟩
  | _, _, .int i t => ⟨_, .int i t⟩
  | _, _, .str x t => ⟨_, .str x t⟩
  | _, _, .lst g c e r => let ⟨_, q⟩ := r.reads; ⟨_, .list g c e q⟩
  | _, _, .tup g c e r => let ⟨_, q⟩ := r.reads; ⟨_, .tuple g c e q⟩
  | _, _, .dct g c e _ rk rv => let ⟨_, q⟩ := rk.reads; let ⟨_, q2⟩ := rv.reads; ⟨_, .dict g c e q q2⟩
theorem RdDs.reads {h : Heap} : ∀ {v : List Value} {d : List PyData}, RdDs h v d → ∃ as, ReadsAll h v d as
  | _, _, .nil => ⟨_, .nil⟩
  | _, _, .cons r rs => let ⟨_, q⟩ := r.reads; let ⟨_, q2⟩ := rs.reads; ⟨_, .cons q q2⟩
end
theorem kv_keys_le (ps : List (PyData × PyData)) {t : Str} (hz : (dictText (PyData.shownKv ps)).length ≤ sizeLine) (ht : t ∈ PyData.shownAll (ps.map (·.1))) : t.length ≤ sizeLine := by
  obtain ⟨p, hp, hl⟩ := PyData.shownKv_key_le ps t ht
  have := dictText_mem_le hp
  omega
theorem kv_vals_le (ps : List (PyData × PyData)) {t : Str} (hz : (dictText (PyData.shownKv ps)).length ≤ sizeLine) (ht : t ∈ PyData.shownAll (ps.map (·.2))) : t.length ≤ sizeLine := by
  obtain ⟨p, hp, hl⟩ := PyData.shownKv_val_le ps t ht
  have := dictText_mem_le hp
  omega
section
variable {prog : Program} {w : World} {h : Heap}
mutual
theorem RdD.rep : ∀ {v : Value} {d : PyData}, RdD h v d → d.showable = true → d.shown.length ≤ sizeLine → ∃ bs, ReadAtMost h d.depth bs ∧ ReprK prog w bs h d.depth v d.shown
  | _, _, .non, _, _ => ⟨[], (fun _ z => nomatch z), by simp only [PyData.shown]; exact .of_is ReprIs.none _ _ _⟩
  | _, _, .bl b, _, _ => ⟨[], (fun _ z => nomatch z), by simp only [PyData.shown]; exact .of_is (ReprIs.bool b) _ _ _⟩
  | _, _, .int i t, s, _ => ⟨[], (fun _ z => nomatch z), by simp only [PyData.shown]; exact .of_is (ReprIs.int t (by simpa [PyData.showable] using s)) _ _ _⟩
  | _, _, .str x t, _, z => ⟨[], (fun _ z => nomatch z), by simp only [PyData.shown]; exact .of_is (ReprIs.str x t (by simpa only [PyData.shown] using z)) _ _ _⟩
  | _, _, .lst (a := a) (vs := vs) (ds := ds) g c e r, s, z => by
    have z' : (listText (PyData.shownAll ds)).length ≤ sizeLine := by simpa only [PyData.shown] using z
    obtain ⟨bs, hb, hk⟩ := r.rep (by simpa [PyData.showable] using s) fun t ht => Nat.le_trans (listText_mem_le ht) z'
    obtain ⟨as, ra⟩ := r.reads
    have rr : Reads h (.ref a) (.list ds) _ := .list g c e ra
    have na : a ∉ bs := not_mem_of_deeper rr (by simp only [PyData.depth]; omega) hb
    refine ⟨a :: bs, ReadAtMost.cons rr (by simp only [PyData.depth]; omega) hb, ?_⟩
    simp only [PyData.depth, PyData.shown]
    obtain ⟨l⟩ := vs
    match l, r, hk with
    | [], r, _ =>
      cases r
      simp only [PyData.shownAll, listText_nil]
      exact ReprK.listEmpty g c e
    | x :: l, _, hk => exact ReprK.list g c e na (by simpa using hk.length_eq) fun i y q => hk.item i y (by simpa using q)
  | _, _, .tup (a := a) (ds := ds) g c e r, s, z => by
    have z' : (tupleText (PyData.shownAll ds)).length ≤ sizeLine := by simpa only [PyData.shown] using z
    obtain ⟨bs, hb, hk⟩ := r.rep (by simpa [PyData.showable] using s) fun t ht => Nat.le_trans (tupleText_mem_le ht) z'
    obtain ⟨as, ra⟩ := r.reads
    have rr : Reads h (.ref a) (.tuple ds) _ := .tuple g c e ra
    have na : a ∉ bs := not_mem_of_deeper rr (by simp only [PyData.depth]; omega) hb
    refine ⟨a :: bs, ReadAtMost.cons rr (by simp only [PyData.depth]; omega) hb, ?_⟩
    simp only [PyData.depth, PyData.shown]
    exact ReprK.tuple g c e na hk
  | _, _, .dct (a := a) (es := es) (ps := ps) g c e m rk rv, s, z => by
    have z' : (dictText (PyData.shownKv ps)).length ≤ sizeLine := by simpa only [PyData.shown] using z
    obtain ⟨s1, s2⟩ := PyData.showableKv_split ps (by simpa [PyData.showable] using s)
    obtain ⟨b1, hb1, k1⟩ := rk.rep s1 fun t ht => kv_keys_le ps z' ht
    obtain ⟨b2, hb2, k2⟩ := rv.rep s2 fun t ht => kv_vals_le ps z' ht
    obtain ⟨as, ra⟩ := rk.reads
    obtain ⟨as2, ra2⟩ := rv.reads
    have rr : Reads h (.ref a) (.dict ps) _ := .dict g c e ra ra2
    have hb : ReadAtMost h (PyData.depthKv ps) (b1 ++ b2) := (hb1.mono (PyData.depthAll_keys_le ps)).append (hb2.mono (PyData.depthAll_vals_le ps))
    have na : a ∉ b1 ++ b2 := not_mem_of_deeper rr (by simp only [PyData.depth]; omega) hb
    refine ⟨a :: (b1 ++ b2), ReadAtMost.cons rr (by simp only [PyData.depth]; omega) hb, ?_⟩
    simp only [PyData.depth, PyData.shown, PyData.shownKv_eq]
    exact ReprK.dict g c e m na (ReprEntriesK.of_two es.toList _ _ (k1.more_le (fun b q => List.mem_append_left _ q) (PyData.depthAll_keys_le ps)) (k2.more_le (fun b q => List.mem_append_right _ q) (PyData.depthAll_vals_le ps)))
theorem RdDs.rep : ∀ {v : List Value} {d : List PyData}, RdDs h v d → PyData.showableAll d = true → (∀ t ∈ PyData.shownAll d, t.length ≤ sizeLine) → ∃ bs, ReadAtMost h (PyData.depthAll d) bs ∧ ReprAllK prog w bs h (PyData.depthAll d) v (PyData.shownAll d)
  | _, _, .nil, _, _ => ⟨[], (fun _ z => nomatch z), by simp only [PyData.shownAll]; exact .nil⟩
  | _, _, .cons (d := d) (ds := ds) r rs, s, z => by
    have s' : d.showable = true ∧ PyData.showableAll ds = true := by simpa [PyData.showableAll] using s
    obtain ⟨b1, hb1, k1⟩ := r.rep s'.1 (z _ (by simp only [PyData.shownAll]; exact List.mem_cons_self))
    obtain ⟨b2, hb2, k2⟩ := rs.rep s'.2 fun t ht => z t (by simp only [PyData.shownAll]; exact List.mem_cons_of_mem _ ht)
    refine ⟨b1 ++ b2, (hb1.mono ?_).append (hb2.mono ?_), ?_⟩
    · simp only [PyData.depthAll]
      exact Nat.le_max_left _ _
    · simp only [PyData.depthAll]
      exact Nat.le_max_right _ _
    · simp only [PyData.depthAll, PyData.shownAll]
      exact .cons ((k1.more fun b q => List.mem_append_left _ q).level_le (Nat.le_max_left _ _)) (k2.more_le (fun b q => List.mem_append_right _ q) (Nat.le_max_right _ _))
end
theorem RdD.shows {a : Addr} : ∀ {d : PyData}, RdD h (.ref a) d → d.showable = true → d.shown.length ≤ sizeLine → ∃ T idr, ShowsBy prog w h a d T idr
  | _, .lst (vs := vs) (ds := ds) g c e r, sh, z => by
    have z' : (listText (PyData.shownAll ds)).length ≤ sizeLine := by simpa only [PyData.shown] using z
    obtain ⟨bs, hb, hk⟩ := r.rep (prog := prog) (w := w) (by simpa [PyData.showable] using sh) fun t ht => Nat.le_trans (listText_mem_le ht) z'
    obtain ⟨as, ra⟩ := r.reads
    have na : a ∉ bs := not_mem_of_deeper (.list g c e ra) (by simp only [PyData.depth]; omega) hb
    refine ⟨"list", "list.__repr__", F.slot_list_repr.toG, F.slot_list_str, F.slot_list_format, fun s k => ⟨_, k _ _ g, c⟩, fun A E s Q hg hu k hQ => ?_⟩
    simp only [PyData.depth] at hu
    simp only [PyData.shown] at hQ
    obtain ⟨l⟩ := vs
    match l, r, hk with
    | [], r, _ =>
      cases r
      simp only [PyData.shownAll, listText_nil] at hQ
      exact call_list_repr_empty ⟨_, k _ _ g, c⟩ (k _ _ g) e (hQ s.heap _ _ fun _ _ q => q)
    | x :: l, _, hk => exact call_list_reprK g c e na (by simpa using hk.length_eq) (fun i y q => hk.item i y (by simpa using q)) hg (fun b _ => Clear.nil b) hu k hQ z'
  | _, .tup (ds := ds) g c e r, sh, z => by
    have z' : (tupleText (PyData.shownAll ds)).length ≤ sizeLine := by simpa only [PyData.shown] using z
    obtain ⟨bs, hb, hk⟩ := r.rep (prog := prog) (w := w) (by simpa [PyData.showable] using sh) fun t ht => Nat.le_trans (tupleText_mem_le ht) z'
    obtain ⟨as, ra⟩ := r.reads
    have na : a ∉ bs := not_mem_of_deeper (.tuple g c e ra) (by simp only [PyData.depth]; omega) hb
    refine ⟨"tuple", "tuple.__repr__", F.slot_tuple_repr, F.slot_tuple_str, F.slot_tuple_format, fun s k => ⟨_, k _ _ g, c⟩, fun A E s Q hg hu k hQ => ?_⟩
    simp only [PyData.depth] at hu
    simp only [PyData.shown] at hQ
    exact call_tuple_reprK g c e na hk hg (fun b _ => Clear.nil b) hu k hQ z'
  | _, .dct (es := es) (ps := ps) g c e m rk rv, sh, z => by
    have z' : (dictText (PyData.shownKv ps)).length ≤ sizeLine := by simpa only [PyData.shown] using z
    obtain ⟨s1, s2⟩ := PyData.showableKv_split ps (by simpa [PyData.showable] using sh)
    obtain ⟨b1, hb1, k1⟩ := rk.rep (prog := prog) (w := w) s1 fun t ht => kv_keys_le ps z' ht
    obtain ⟨b2, hb2, k2⟩ := rv.rep (prog := prog) (w := w) s2 fun t ht => kv_vals_le ps z' ht
    obtain ⟨as, ra⟩ := rk.reads
    obtain ⟨as2, ra2⟩ := rv.reads
    have hb : ReadAtMost h (PyData.depthKv ps) (b1 ++ b2) := (hb1.mono (PyData.depthAll_keys_le ps)).append (hb2.mono (PyData.depthAll_vals_le ps))
    have na : a ∉ b1 ++ b2 := not_mem_of_deeper (.dict g c e ra ra2) (by simp only [PyData.depth]; omega) hb
    refine ⟨"dict", "dict.__repr__", F.slot_dict_repr, F.slot_dict_str, F.slot_dict_format, fun s k => ⟨_, k _ _ g, c⟩, fun A E s Q hg hu k hQ => ?_⟩
    simp only [PyData.depth] at hu
    simp only [PyData.shown, PyData.shownKv_eq] at hQ
    exact call_dict_reprK g c e m na (ReprEntriesK.of_two es.toList _ _ (k1.more_le (fun b q => List.mem_append_left _ q) (PyData.depthAll_keys_le ps)) (k2.more_le (fun b q => List.mem_append_right _ q) (PyData.depthAll_vals_le ps))) hg (fun b _ => Clear.nil b) hu k hQ (by rw [← PyData.shownKv_eq]; exact z')
theorem RdD.repr_call {a : Addr} {d : PyData} {A : Around} {E : Value → Shared → Prop} {s : Shared} {Q : Value → Shared → Prop} (r : RdD h (.ref a) d) (hs : d.showable = true) (hg : A.guards = some []) (hu : A.units + (d.depth + 1) < cLine) (k : ∀ b o, h.get? b = some o → s.heap.get? b = some o)
    (hQ : ∀ h' u tk, (∀ b o, s.heap.get? b = some o → h'.get? b = some o) → Q (.str d.shown u) { s with heap := h', toks := tk }) (z : d.shown.length ≤ sizeLine) : wpAny (model prog w) A (call (.builtin "repr") [.ref a]) Q E s := by
  obtain ⟨T, idr, S⟩ := r.shows (prog := prog) (w := w) hs z
  exact call_repr_slot (by omega) (S.typeIs s k) S.slotRepr (S.call A.in1 E s _ hg (by show A.units + 1 + d.depth < cLine; omega) k fun h' u tk q => ⟨_, _, rfl, hQ h' u tk q⟩)
end
end L3
namespace L3
open PySem L2
/-! ### data read in full -/
/-- a list of the store, read as a value -/
def res (M : Mp) : D → D
  | .tok a => match M a with
    | some (.lst ds) => .lst ds
    | some (.dic _ kd) => .dct (kd.map (·.1)) (kd.map (·.2))
    | _ => .tok a
  | d => d
theorem zip_fs {α β : Type} : ∀ l : List (α × β), (l.map (·.1)).zip (l.map (·.2)) = l
  | [] => rfl
  | p :: l => by rw [List.map_cons, List.map_cons, List.zip_cons_cons, zip_fs l]
theorem res_rep {K : PySem.W.Frag} {Z : Hp} {H : Hp} {M : Mp} {v : V} : ∀ {d : D}, Sat K Z H M → Rep K (fz Z H M) v d → Rep K H v (res M d)
  | .non, _, r => r.up fz_sub
  | .bl _, _, r => r.up fz_sub
  | .int _, _, r => r.up fz_sub
  | .str _, _, r => r.up fz_sub
  | .ty _, _, r => r.up fz_sub
  | .tup _, _, r => r.up fz_sub
  | .lst _, _, r => r.up fz_sub
  | .exc _ _ _ _ _, _, r => r.up fz_sub
  | .tpl _, _, r => r.up fz_sub
  | .dct _ _, _, r => r.up fz_sub
  | .tok a, S, r => by
    cases r
    show Rep K H (.ref a) (match M a with | some (.lst ds) => .lst ds | some (.dic _ kd) => .dct (kd.map (·.1)) (kd.map (·.2)) | _ => .tok a)
    cases q : M a with
    | none => exact .tok a
    | some c =>
      cases c with
      | lst ds =>
        obtain ⟨vs, e, rl⟩ := S.cell a _ q
        exact .lst (.inl (.inl e)) (rl.up fz_sub)
      | aux => exact .tok a
      | drw _ => exact .tok a
      | tab _ _ => exact .tok a
      | box => exact .tok a
      | ins _ _ => exact .tok a
      | dic lk kd =>
        obtain ⟨kv, u, e, l, e1, e2⟩ := S.cell a _ q
        refine .dct (vs := kv.map (·.2)) ?_ (by rw [← e1, List.length_map, List.length_map]) (e2.up fz_sub)
        rw [← e1, zip_fs]
        cases lk with
        | none =>
          cases l
          exact .inl e
        | some o =>
          rw [l.2] at e
          exact .inr ⟨_, e⟩
/-- the items of a list, a tuple -/
def seqD (M : Mp) : D → Option (List D)
  | .tup ds => some ds
  | .lst ds => some ds
  | .tpl ds => some ds
  | .tok a => match M a with
    | some (.lst ds) => some ds
    | _ => none
  | _ => none
theorem seq_of {K : PySem.W.Frag} {Z : Hp} {H : Hp} {M : Mp} {v : V} : ∀ {d : D} {ds : List D}, Sat K Z H M → Rep K (fz Z H M) v d → seqD M d = some ds → ∃ a vs, v = .ref a ∧ (SqL K H a vs ∨ SqT K H a vs) ∧ RepL K (fz Z H M) vs ds
  | .non, _, _, _, e => by cases e
  | .bl _, _, _, _, e => by cases e
  | .int _, _, _, _, e => by cases e
  | .str _, _, _, _, e => by cases e
  | .ty _, _, _, _, e => by cases e
  | .exc _ _ _ _ _, _, _, _, e => by cases e
  | .tpl es, ds, S, r, e => by
    obtain rfl : es = ds := Option.some.inj e
    cases r with
    | tpl hs hd ha => exact ⟨_, _, rfl, .inr (.inl (.inr ⟨_, fz_sub _ _ hs⟩)), ha⟩
  | .dct _ _, _, _, _, e => by cases e
  | .tup es, ds, S, r, e => by
    obtain rfl : es = ds := Option.some.inj e
    cases r with
    | tup hs ha => exact ⟨_, _, rfl, .inr (sqt_mono fz_sub hs), ha⟩
  | .lst es, ds, S, r, e => by
    obtain rfl : es = ds := Option.some.inj e
    cases r with
    | lst hs ha => exact ⟨_, _, rfl, .inl (fz_sub.seq hs), ha⟩
  | .tok a, ds, S, r, e => by
    cases r
    have e' : (match M a with | some (.lst ds) => some ds | _ => none) = some ds := e
    cases q : M a with
    | none =>
      rw [q] at e'
      cases e'
    | some c =>
      rw [q] at e'
      cases c with
      | lst es =>
        obtain rfl : es = ds := Option.some.inj e'
        obtain ⟨vs, e1, rl⟩ := S.cell a _ q
        exact ⟨_, _, rfl, .inl (.inl (.inl e1)), rl⟩
      | aux => cases e'
      | drw _ => cases e'
      | tab _ _ => cases e'
      | box => cases e'
      | ins _ _ => cases e'
      | dic _ _ => cases e'
/-! ### plain data: equality, texts -/
def keyPy : Key → PyData
  | .inl i => .int i
  | .inr x => .str x
mutual
def D.py : D → PyData
  | .non => .none
  | .bl b => .bool b
  | .int i => .int i
  | .str x => .str x
  | .ty _ => .none
  | .tok _ => .none
  | .exc _ _ _ _ _ => .none
  | .tpl _ => .none
  | .dct ks ds => .dict ((ks.map keyPy).zip (pyL ds))
  | .tup ds => .tuple (pyL ds)
  | .lst ds => .list (pyL ds)
def pyL : List D → List PyData
  | [] => []
  | d :: ds => d.py :: pyL ds
end
/-- data without objects, so deep at most -/
def fit : Nat → D → Prop
  | _, .non => True
  | _, .bl _ => True
  | _, .int _ => True
  | _, .str x => PySem.PyData.strOk x = true
  | _, .ty _ => False
  | _, .tok _ => False
  | _, .exc _ _ _ _ _ => False
  | _, .tpl _ => False
  | _, .dct _ _ => False
  | 0, .tup _ => False
  | 0, .lst _ => False
  | n + 1, .tup ds => ∀ d ∈ ds, fit n d
  | n + 1, .lst ds => ∀ d ∈ ds, fit n d
mutual
theorem Rep.dp {K : PySem.W.Frag} {H : Hp} : ∀ (n : Nat) (d : D) (v : V), fit n d → Rep K H v d → Dp K H v d.py
  | _, .non, _, _, r => by cases r; exact .non
  | _, .bl b, _, _, r => by cases r; exact .bl b
  | _, .int i, _, _, r => by cases r; exact .int i
  | _, .str x, _, _, r => by cases r; exact .str x
  | _, .ty _, _, f, _ => by simp [fit] at f
  | _, .tok _, _, f, _ => by simp [fit] at f
  | _, .exc _ _ _ _ _, _, f, _ => by simp [fit] at f
  | _, .tpl _, _, f, _ => by simp [fit] at f
  | _, .dct _ _, _, f, _ => by simp [fit] at f
  | 0, .tup _, _, f, _ => by cases f
  | 0, .lst _, _, f, _ => by cases f
  | n + 1, .tup ds, _, f, r => by
    cases r with
    | tup hs ha => exact .tup hs (RepL.dp n ds _ f ha)
  | n + 1, .lst ds, _, f, r => by
    cases r with
    | lst hs ha => exact .lst hs (RepL.dp n ds _ f ha)
theorem RepL.dp {K : PySem.W.Frag} {H : Hp} : ∀ (n : Nat) (ds : List D) (vs : List V), (∀ d ∈ ds, fit n d) → RepL K H vs ds → DpAll K H vs (pyL ds)
  | _, [], _, _, r => by cases r; exact .nil
  | n, d :: ds, _, f, r => by
    cases r with
    | cons r1 r2 => exact .cons (Rep.dp n d _ (f d List.mem_cons_self) r1) (RepL.dp n ds _ (fun x hx => f x (List.mem_cons_of_mem _ hx)) r2)
end
mutual
theorem fit_lay : ∀ (n : Nat) (d : D), fit n d → d.py.canLay0 = true ∧ d.py.depth ≤ n
  | _, .non, _ => ⟨by simp [D.py, PyData.canLay0], by simp [D.py, PyData.depth]⟩
  | _, .bl b, _ => ⟨by simp [D.py, PyData.canLay0], by simp [D.py, PyData.depth]⟩
  | _, .int i, _ => ⟨by simp [D.py, PyData.canLay0], by simp [D.py, PyData.depth]⟩
  | _, .str x, f => by
    have f' : PySem.PyData.strOk x = true := by simpa [fit] using f
    exact ⟨by simp [D.py, PyData.canLay0, f'], by simp [D.py, PyData.depth]⟩
  | _, .ty _, f => by simp [fit] at f
  | _, .tok _, f => by simp [fit] at f
  | _, .exc _ _ _ _ _, f => by simp [fit] at f
  | _, .tpl _, f => by simp [fit] at f
  | _, .dct _ _, f => by simp [fit] at f
  | 0, .tup _, f => by cases f
  | 0, .lst _, f => by cases f
  | n + 1, .tup ds, f => by
    have q := fit_layL n ds f
    exact ⟨by simp [D.py, PyData.canLay0, q.1], by simp only [D.py, PyData.depth]; omega⟩
  | n + 1, .lst ds, f => by
    have q := fit_layL n ds f
    exact ⟨by simp [D.py, PyData.canLay0, q.1], by simp only [D.py, PyData.depth]; omega⟩
theorem fit_layL : ∀ (n : Nat) (ds : List D), (∀ d ∈ ds, fit n d) → PyData.canLayAll0 (pyL ds) = true ∧ PyData.depthAll (pyL ds) ≤ n
  | _, [], _ => ⟨by simp [pyL, PyData.canLayAll0], by simp [pyL, PyData.depthAll]⟩
  | n, d :: ds, f => by
    have q1 := fit_lay n d (f d List.mem_cons_self)
    have q2 := fit_layL n ds fun x hx => f x (List.mem_cons_of_mem _ hx)
    exact ⟨by simp [pyL, PyData.canLayAll0, q1.1, q2.1], by simp only [pyL, PyData.depthAll]; omega⟩
end
theorem fit_shaped {n : Nat} {d : D} (f : fit n d) (h : n ≤ 64) : SeqAt.shaped d.py = true := by
  have q := fit_lay n d f
  unfold SeqAt.shaped
  rw [q.1, Bool.true_and]
  exact decide_eq_true (by omega)
def eqD (d e : D) : Bool := PyData.eqv d.py e.py
def shown (d : D) : Str := d.py.shown
/-! how long its text is at most -/
mutual
def cost : D → Nat
  | .non => 5
  | .bl _ => 5
  | .int _ => 210
  | .str x => 10 * x.length + 4
  | .ty _ => 5
  | .tok _ => 5
  | .exc _ _ _ _ _ => 5
  | .tpl _ => 5
  | .dct ks ds => (D.py (.dct ks ds)).shown.length
  | .tup ds => costL ds + 4
  | .lst ds => costL ds + 4
def costL : List D → Nat
  | [] => 0
  | d :: ds => cost d + 2 + costL ds
end
/-- data that can be shown -/
def shw : Nat → D → Prop
  | _, .non => True
  | _, .bl _ => True
  | _, .int i => i.natAbs < 2 ^ 200
  | _, .str x => PySem.PyData.strOk x = true
  | _, .ty _ => False
  | _, .tok _ => False
  | _, .exc _ _ _ _ _ => False
  | _, .tpl _ => False
  | 0, .dct _ _ => False
  | 0, .tup _ => False
  | 0, .lst _ => False
  | n + 1, .tup ds => ∀ d ∈ ds, shw n d
  | n + 1, .lst ds => ∀ d ∈ ds, shw n d
  | n + 1, .dct ks ds => (ks.length = ds.length ∧ ∀ k ∈ ks, (keyPy k).showable = true) ∧ ∀ d ∈ ds, shw n d
theorem log200 {n : Nat} (h : n < 2 ^ 200) : n.log2 < 200 := by
  by_cases h0 : n = 0
  · subst h0
    decide
  · exact (Nat.log2_lt h0).mpr h
theorem showableKv_zip : ∀ (ks : List Key) (ps : List PyData), (∀ k ∈ ks, (keyPy k).showable = true) → PyData.showableAll ps = true → PyData.showableKv ((ks.map keyPy).zip ps) = true
  | [], _, _, _ => by simp [PyData.showableKv]
  | _ :: _, [], _, _ => by simp [PyData.showableKv]
  | k :: ks, p :: ps, hk, hp => by
    have h2 : p.showable = true ∧ PyData.showableAll ps = true := by simpa [PyData.showableAll] using hp
    rw [List.map_cons, List.zip_cons_cons]
    simp [PyData.showableKv, hk k List.mem_cons_self, h2.1, showableKv_zip ks ps (fun x hx => hk x (List.mem_cons_of_mem _ hx)) h2.2]
theorem keyPy_depth (k : Key) : (keyPy k).depth = 0 := by cases k <;> simp [keyPy, PyData.depth]
theorem depthKv_zip (n : Nat) : ∀ (ks : List Key) (ps : List PyData), PyData.depthAll ps ≤ n → PyData.depthKv ((ks.map keyPy).zip ps) ≤ n
  | [], _, _ => by simp [PyData.depthKv]
  | _ :: _, [], _ => by simp [PyData.depthKv]
  | k :: ks, p :: ps, h => by
    have h1 : p.depth ≤ n ∧ PyData.depthAll ps ≤ n := by
      simp only [PyData.depthAll] at h
      omega
    have ih := depthKv_zip n ks ps h1.2
    rw [List.map_cons, List.zip_cons_cons]
    simp only [PyData.depthKv, keyPy_depth]
    omega
mutual
theorem shw_show : ∀ (n : Nat) (d : D), shw n d → d.py.showable = true ∧ d.py.depth ≤ n
  | _, .non, _ => ⟨by simp [D.py, PyData.showable], by simp [D.py, PyData.depth]⟩
  | _, .bl b, _ => ⟨by simp [D.py, PyData.showable], by simp [D.py, PyData.depth]⟩
  | _, .int i, f => by
    have f' : i.natAbs < 2 ^ 200 := by simpa only [shw] using f
    have q := log200 f'
    exact ⟨by simp only [D.py, PyData.showable]; exact decide_eq_true (by omega), by simp [D.py, PyData.depth]⟩
  | _, .str x, f => ⟨by simp [D.py, PyData.showable], by simp [D.py, PyData.depth]⟩
  | _, .ty _, f => by simp [shw] at f
  | _, .tok _, f => by simp [shw] at f
  | _, .exc _ _ _ _ _, f => by simp [shw] at f
  | _, .tpl _, f => by simp [shw] at f
  | 0, .dct _ _, f => by cases f
  | 0, .tup _, f => by cases f
  | 0, .lst _, f => by cases f
  | n + 1, .tup ds, f => by
    have q := shw_showL n ds f
    exact ⟨by simp [D.py, PyData.showable, q.1], by simp only [D.py, PyData.depth]; omega⟩
  | n + 1, .lst ds, f => by
    have q := shw_showL n ds f
    exact ⟨by simp [D.py, PyData.showable, q.1], by simp only [D.py, PyData.depth]; omega⟩
  | n + 1, .dct ks ds, f => by
    have q := shw_showL n ds f.2
    have q2 := depthKv_zip n ks (pyL ds) q.2
    exact ⟨by simp only [D.py, PyData.showable]; exact showableKv_zip ks _ f.1.2 q.1, by simp only [D.py, PyData.depth]; omega⟩
theorem shw_showL : ∀ (n : Nat) (ds : List D), (∀ d ∈ ds, shw n d) → PyData.showableAll (pyL ds) = true ∧ PyData.depthAll (pyL ds) ≤ n
  | _, [], _ => ⟨by simp [pyL, PyData.showableAll], by simp [pyL, PyData.depthAll]⟩
  | n, d :: ds, f => by
    have q1 := shw_show n d (f d List.mem_cons_self)
    have q2 := shw_showL n ds fun x hx => f x (List.mem_cons_of_mem _ hx)
    exact ⟨by simp [pyL, PyData.showableAll, q1.1, q2.1], by simp only [pyL, PyData.depthAll]; omega⟩
end
theorem pyL_len : ∀ ds : List D, (pyL ds).length = ds.length
  | [] => rfl
  | d :: ds => by rw [pyL, List.length_cons, List.length_cons, pyL_len ds]
theorem pairs_rdd {h : Heap} {P : Program} {w : World} : ∀ {kvs : List (Key × V)} {vs : List (Key × Value)} {es : List DictEntry}, KV kvs vs → Pairs (mixKind P w) es vs → RdDs h (es.map (·.key)) ((kvs.map (·.1)).map keyPy) ∧ Vals (kvs.map (·.2)) (es.map (·.val))
  | _, _, _, .nil, .nil => ⟨.nil, .nil⟩
  | _, _, _, .cons (a := a) (b := b) h t, .cons (e := e) e1 e2 ps => by
    obtain ⟨q1, q2⟩ := pairs_rdd t ps
    refine ⟨.cons ?_ q1, .cons ?_ q2⟩
    · have z : keyIs b.1 e.key = true := e1
      rw [← h.1] at z
      show RdD _ e.key (keyPy a.1)
      rcases keyIs_shape z with ⟨i, t, hk, hv⟩ | ⟨x, t, hk, hv⟩
      · rw [hk, hv]
        exact .int i t
      · rw [hk, hv]
        exact .str x t
    · show RelV a.2 e.val
      rw [e2]
      exact h.2
mutual
theorem Rep.rdd {X : Cx} {pins : List (Addr × Obj)} {σ : L2.St} {H : Hp} {s : Shared} (I : Inv X pins σ H s) : ∀ (n : Nat) (d : D) (v : V) (u : Value), shw n d → Rep X.K H v d → RelV v u → RdD s.heap u d.py
  | _, .non, _, _, _, r, ru => by
    cases r
    cases ru
    exact .non
  | _, .bl b, _, _, _, r, ru => by
    cases r
    cases ru
    exact .bl b
  | _, .int i, _, _, _, r, ru => by
    cases r
    obtain ⟨t, rfl⟩ := ru
    exact .int i t
  | _, .str x, _, _, _, r, ru => by
    cases r
    obtain ⟨t, rfl⟩ := ru
    exact .str x t
  | _, .ty _, _, _, f, _, _ => by simp [shw] at f
  | _, .tok _, _, _, f, _, _ => by simp [shw] at f
  | _, .exc _ _ _ _ _, _, _, f, _, _ => by simp [shw] at f
  | _, .tpl _, _, _, f, _, _ => by simp [shw] at f
  | 0, .dct _ _, _, _, f, _, _ => by cases f
  | 0, .tup _, _, _, f, _, _ => by cases f
  | 0, .lst _, _, _, f, _, _ => by cases f
  | n + 1, .tup ds, _, _, f, r, ru => by
    cases r with
    | tup hs ha =>
      cases ru
      obtain ⟨its, rv, ⟨o, ho, hc, m, hd⟩, _⟩ := I.tuple hs
      exact .tup ho hc hd (RepL.rdd I n ds _ _ f ha rv)
  | n + 1, .lst ds, _, _, f, r, ru => by
    cases r with
    | lst hs ha =>
      cases ru
      obtain ⟨its, rv, ⟨o, m, ho, hc, _, hd⟩, _⟩ := I.list hs
      exact .lst ho hc hd (RepL.rdd I n ds _ _ f ha rv)
  | n + 1, .dct ks ds, _, _, f, r, ru => by
    cases r with
    | @dct _ _ vs0 _ hs hl ha =>
      cases ru
      obtain ⟨_, hm, vs, kv, o, es, ep, h1, h2, h3, _, h5, _⟩ := dk_rd I.hok hs
      obtain ⟨q1, q2⟩ := pairs_rdd (h := s.heap) kv h5
      have e1 : (ks.zip vs0).map (·.1) = ks := List.map_fst_zip (Nat.le_of_eq hl)
      have e2 : (ks.zip vs0).map (·.2) = vs0 := List.map_snd_zip (Nat.le_of_eq hl.symm)
      rw [e1] at q1
      rw [e2] at q2
      have q3 := RepL.rdd I n ds _ _ f.2 ha q2
      have l1 : (ks.map keyPy).length = (pyL ds).length := by
        rw [List.length_map, f.1.1, pyL_len]
      show RdD s.heap _ (.dict ((ks.map keyPy).zip (pyL ds)))
      exact .dct h1 h2.1 h3 hm (by rw [List.map_fst_zip (Nat.le_of_eq l1)]; exact q1) (by rw [List.map_snd_zip (Nat.le_of_eq l1.symm)]; exact q3)
theorem RepL.rdd {X : Cx} {pins : List (Addr × Obj)} {σ : L2.St} {H : Hp} {s : Shared} (I : Inv X pins σ H s) : ∀ (n : Nat) (ds : List D) (vs : List V) (us : List Value), (∀ d ∈ ds, shw n d) → RepL X.K H vs ds → Vals vs us → RdDs s.heap us (pyL ds)
  | _, [], _, _, _, r, ru => by
    cases r
    cases ru
    exact .nil
  | n, d :: ds, _, _, f, r, ru => by
    cases r with
    | cons r1 r2 =>
      cases ru with
      | cons u1 u2 => exact .cons (Rep.rdd I n d _ _ (f d List.mem_cons_self) r1 u1) (RepL.rdd I n ds _ _ (fun x hx => f x (List.mem_cons_of_mem _ hx)) r2 u2)
end
theorem shownAll_len : ∀ ds : List PyData, (PyData.shownAll ds).length = ds.length
  | [] => rfl
  | d :: ds => by rw [PyData.shownAll, List.length_cons, List.length_cons, shownAll_len ds]
mutual
theorem shw_cost : ∀ (n : Nat) (d : D), shw n d → d.py.shown.length ≤ cost d
  | _, .non, _ => by decide
  | _, .bl b, _ => by cases b <;> decide
  | _, .int i, f => by
    have f' : i.natAbs < 2 ^ 200 := by simpa only [shw] using f
    have q := PySem.int_text_length_le (a := i) (k := 200) (by decide) (log200 f')
    have e : (D.int i).py.shown.length = (toString i).length := by
      show (Str.ofString (toString i)).length = _
      rw [PySem.ofString_length]
    rw [e]
    show _ ≤ 210
    omega
  | _, .str x, f => by
    have f' : PySem.PyData.strOk x = true := by simpa only [shw] using f
    have h : ∀ c ∈ x.cps.toList, c < 16 ^ 8 := fun c hc => by
      have z := (Array.all_eq_true'.mp f') c (by simpa using hc)
      have z' : c < 0x110000 := by simpa using z
      exact Nat.lt_trans z' (by decide)
    have q := PySem.StrLaws.reprText_len x h
    show (reprText x).length ≤ 10 * x.length + 4
    omega
  | _, .ty _, f => by simp [shw] at f
  | _, .tok _, f => by simp [shw] at f
  | _, .exc _ _ _ _ _, f => by simp [shw] at f
  | _, .tpl _, f => by simp [shw] at f
  | _, .dct _ _, f => Nat.le_refl _
  | 0, .tup _, f => by cases f
  | 0, .lst _, f => by cases f
  | n + 1, .tup ds, f => by
    have q := shw_costL n ds f
    have z := PySem.tupleText_len_le (PyData.shownAll (pyL ds))
    rw [shownAll_len, pyL_len] at z
    show (tupleText (PyData.shownAll (pyL ds))).length ≤ costL ds + 4
    omega
  | n + 1, .lst ds, f => by
    have q := shw_costL n ds f
    have z := PySem.listText_len_le (PyData.shownAll (pyL ds))
    rw [shownAll_len, pyL_len] at z
    show (listText (PyData.shownAll (pyL ds))).length ≤ costL ds + 4
    omega
theorem shw_costL : ∀ (n : Nat) (ds : List D), (∀ d ∈ ds, shw n d) → ((PyData.shownAll (pyL ds)).map (·.length)).sum + 2 * ds.length ≤ costL ds
  | _, [], _ => Nat.le_refl _
  | n, d :: ds, f => by
    have q1 := shw_cost n d (f d List.mem_cons_self)
    have q2 := shw_costL n ds fun x hx => f x (List.mem_cons_of_mem _ hx)
    simp only [pyL, PyData.shownAll, List.map_cons, List.sum_cons, List.length_cons, costL]
    omega
end
/-- repr(x), by data -/
theorem call_repr_any {X : Cx} {k : Nat} (hr : Room k X.A) (gd : X.A.guards = some []) : CallR X (.builtin "repr") (fun xs H Q => ∃ (x : V) (d : D) (n : Nat), xs = [x] ∧ Rep X.K H x d ∧ shw n d ∧ n ≤ 60 ∧ cost d ≤ 16000000 ∧ Q (.str (shown d)) H) := by
  intro pins s σ H vs us Q I r h
  obtain ⟨x, d, n, rfl, rp, sh, hn, hc, q⟩ := h
  obtain ⟨u, rfl, ru⟩ := vals1 r
  have hs := shw_show n d sh
  have hl := shw_cost n d sh
  have hz : d.py.shown.length ≤ sizeLine := by
    rw [sizeLine_eq]
    omega
  have hd := hs.2
  have hu := hr.units
  have rd := Rep.rdd I n d x u sh rp ru
  cases d with
  | non =>
    cases rp
    cases ru
    exact P.repr_of_none ⟨.str _, H, I.tok _, ⟨_, rfl⟩, q⟩
  | bl b =>
    cases rp
    cases ru
    refine P.repr_of_bool ⟨.str _, H, I.tok _, ⟨_, rfl⟩, ?_⟩
    have e : (if b = true then Str.ofString "True" else Str.ofString "False") = shown (.bl b) := by cases b <;> rfl
    rw [e]
    exact q
  | int i =>
    cases rp
    obtain ⟨t, rfl⟩ := ru
    have sh' : i.natAbs < 2 ^ 200 := by simpa only [shw] using sh
    have q3 := log200 sh'
    exact P.repr_of_int (by omega) ⟨.str _, H, I.tok _, ⟨_, rfl⟩, q⟩
  | str y =>
    cases rp
    obtain ⟨t, rfl⟩ := ru
    exact P.repr_of_str ⟨.str _, H, I.tok _, ⟨_, rfl⟩, q⟩ hz
  | ty _ => simp [shw] at sh
  | tok _ => simp [shw] at sh
  | exc _ _ _ _ _ => simp [shw] at sh
  | tpl _ => simp [shw] at sh
  | dct ks ds =>
    cases rp
    cases ru
    exact rd.repr_call hs.1 gd (by omega) (fun _ _ e => e) (fun h' u' tk hk => ⟨.str _, H, I.kept hk, ⟨_, rfl⟩, q⟩) hz
  | tup ds =>
    cases rp
    cases ru
    exact rd.repr_call hs.1 gd (by omega) (fun _ _ e => e) (fun h' u' tk hk => ⟨.str _, H, I.kept hk, ⟨_, rfl⟩, q⟩) hz
  | lst ds =>
    cases rp
    cases ru
    exact rd.repr_call hs.1 gd (by omega) (fun _ _ e => e) (fun h' u' tk hk => ⟨.str _, H, I.kept hk, ⟨_, rfl⟩, q⟩) hz
end L3
namespace L3
open PySem L2
section
variable {X : Cx} {E : XK} {e a b c : Expr} {es : List Expr} {t ta tb tc te : TE} {w wa wb wc we : WE} {pos : Pos} {k : Nat}
/-! ### names, constants -/
def wVar (i : Nat) : WE := fun ρ M Q => match ρ[i]? with
  | some (some d) => Q d M
  | _ => False
theorem sim_var {K : PySem.W.Frag} (i : Nat) : SimE K (tVar i) (wVar i) := by
  intro Z ρ M σ H Q Q' r h q
  unfold wVar at h
  split at h
  · rename_i d e
    obtain ⟨v, e1, rp⟩ := r.env.2 i d e
    exact ⟨v, e1, q v d H M r.refl rp h⟩
  · exact h.elim
theorem de_var (i : Nat) {x : Str} (hN : X.N[i]? = some x := by rfl) (hv : Vis X.env.scope x := by first | exact Or.inl rfl | exact Or.inr (Or.inl rfl) | exact Or.inr (Or.inr rfl)) (hd : (x == ("__debug__" : Str)) = false := by decide)
    (hcd : (x == ("__classdict__" : Str)) = false := by decide) : DE X (.Name x pos) (tVar i) (wVar i) := ⟨pe_var hN hv hd hcd, sim_var i⟩
def wC (d : D) : WE := fun _ M Q => Q d M
theorem sim_c {K : PySem.W.Frag} {v : V} {d : D} (h : ∀ H, Rep K H v d) : SimE K (tC v) (wC d) := fun _ _ M _ H _ _ r q z => z v d H M r.refl (h _) q
theorem de_int {i j} : DE X (.Constant (.int i) j pos) (tC (.int i)) (wC (.int i)) := ⟨pe_int, sim_c fun _ => .int i⟩
theorem de_bl {i j} : DE X (.Constant (.bool i) j pos) (tC (.bl i)) (wC (.bl i)) := ⟨pe_bl, sim_c fun _ => .bl i⟩
theorem de_non {j} : DE X (.Constant .none j pos) (tC .non) (wC .non) := ⟨pe_non, sim_c fun _ => .non⟩
theorem de_str {x j} : DE X (.Constant (.str x) j pos) (tC (.str x)) (wC (.str x)) := ⟨pe_str, sim_c fun _ => .str x⟩
/-- a name of the module that holds a value (a constant) -/
theorem de_glob {x : Str} {v : V} {d : D} {u : Value} (hg : Gl X x) (hm : X.mg x = some u) (r : RelV v u) (h : ∀ H, Rep X.K H v d) (hd : (x == ("__debug__" : Str)) = false := by decide) : DE X (.Name x pos) (tC v) (wC d) := ⟨pe_glob hg hm r hd, sim_c h⟩
/-! ### two values -/
abbrev F2 := D → D → Mp → KD → Prop
def SimR (K : PySem.W.Frag) (r : R2) (f : F2) : Prop := ∀ (Z : Hp) (x y : V) (d e : D) (H : Hp) (M : Mp) (Q : KD) (Q' : VK), Sat K Z H M → Rep K (fz Z H M) x d → Rep K (fz Z H M) y e → f d e M Q → (∀ v d' H' M', Go K Z H M H' M' → Rep K (fz Z H' M') v d' → Q d' M' → Q' v H') → r x y H Q'
def wOp (f : F2) (wa wb : WE) : WE := fun ρ M Q => wa ρ M fun d M1 => wb ρ M1 fun e M2 => f d e M2 Q
theorem sim_op {K : PySem.W.Frag} {r : R2} {f : F2} (ha : SimE K ta wa) (hb : SimE K tb wb) (hr : SimR K r f) : SimE K (tOp r ta tb) (wOp f wa wb) := by
  intro Z ρ M σ H Q Q' s h q
  refine ha Z ρ M σ H _ _ s h fun x d H1 M1 g1 r1 q1 => ?_
  refine hb Z ρ M1 σ H1 _ _ (s.go g1) q1 fun y e H2 M2 g2 r2 q2 => ?_
  exact hr Z x y d e H2 M2 Q Q' g2.sat (r1.up g2.ex) r2 q2 fun v d' H3 M3 g3 r3 q3 => q v d' H3 M3 ((g1.trans g2).trans g3) r3 q3
theorem de_op {op : Operator} {r : R2} {f : F2} (ho : OpR X (binaryOp op) r) (hs : SimR X.K r f) (ha : DE X a ta wa) (hb : DE X b tb wb) : DE X (.BinOp a op b pos) (tOp r ta tb) (wOp f wa wb) := ⟨pe_op ho ha.pe hb.pe, sim_op ha.sm hb.sm hs⟩
theorem de_cmp {op : CmpOp} {r : R2} {f : F2} (ho : OpR X (compareOp op) r) (hs : SimR X.K r f) (ha : DE X a ta wa) (hb : DE X b tb wb) (hm : behindInMarks op b = false := by first | exact nomark _ (by decide) (by decide) | rfl) : DE X (.Compare a [op] [b] pos) (tOp r ta tb) (wOp f wa wb) :=
  ⟨pe_cmpR ho ha.pe hb.pe hm, sim_op ha.sm hb.sm hs⟩
/-- a value's answer as a test -/
def wB (w : WE) : WT := fun ρ M Q => w ρ M fun d M1 => match d with
  | .bl x => Q x M1
  | _ => False
theorem sim_test {K : PySem.W.Frag} (ha : SimE K t w) : SimT K (tTest t) (wB w) := by
  intro Z ρ M σ H Q Q' s h q
  refine ha Z ρ M σ H _ _ s h fun x d H1 M1 g1 r1 q1 => ?_
  cases d with
  | bl y =>
    cases r1
    exact ⟨y, rfl, q y H1 M1 g1 q1⟩
  | _ => exact q1.elim
theorem dt_cmp {op : CmpOp} {r : R2} {f : F2} (ho : OpR X (compareOp op) r) (hs : SimR X.K r f) (ha : DE X a ta wa) (hb : DE X b tb wb) (hm : behindInMarks op b = false := by first | exact nomark _ (by decide) (by decide) | rfl) : DT X (.Compare a [op] [b] pos) (tTest (tOp r ta tb)) (wB (wOp f wa wb)) :=
  ⟨pt_cmpR ho ha.pe hb.pe hm, sim_test (sim_op ha.sm hb.sm hs)⟩
/-- a op b op' c -/
def wChain (f f' : F2) (wa wb wc : WE) : WE := fun ρ M Q => wa ρ M fun d M1 => wb ρ M1 fun e M2 => f d e M2 fun z M3 => match z with
  | .bl true => wc ρ M3 fun g M4 => f' e g M4 Q
  | .bl false => Q (.bl false) M3
  | _ => False
theorem sim_chain {K : PySem.W.Frag} {r r' : R2} {f f' : F2} (ha : SimE K ta wa) (hb : SimE K tb wb) (hc : SimE K tc wc) (hr : SimR K r f) (hr' : SimR K r' f') : SimE K (tChain r r' ta tb tc) (wChain f f' wa wb wc) := by
  intro Z ρ M σ H Q Q' s h q
  refine ha Z ρ M σ H _ _ s h fun x d H1 M1 g1 r1 q1 => ?_
  refine hb Z ρ M1 σ H1 _ _ (s.go g1) q1 fun y e H2 M2 g2 r2 q2 => ?_
  refine hr Z x y d e H2 M2 _ _ g2.sat (r1.up g2.ex) r2 q2 fun z g H3 M3 g3 r3 q3 => ?_
  have g13 := (g1.trans g2).trans g3
  cases g with
  | bl k =>
    cases r3
    refine ⟨k, rfl, ?_⟩
    cases k with
    | true =>
      rw [if_pos rfl]
      refine hc Z ρ M3 σ H3 _ _ (s.go g13) q3 fun v d4 H4 M4 g4 r4 q4 => ?_
      exact hr' Z y v e d4 H4 M4 Q Q' g4.sat ((r2.up g3.ex).up g4.ex) r4 q4 fun v5 d5 H5 M5 g5 r5 q5 => q v5 d5 H5 M5 ((g13.trans g4).trans g5) r5 q5
    | false =>
      rw [if_neg Bool.false_ne_true]
      exact q _ _ H3 M3 g13 (.bl false) q3
  | _ => exact q3.elim
theorem de_chain {op op' : CmpOp} {r r' : R2} {f f' : F2} (ho : OpR X (compareOp op) r) (hs : SimR X.K r f) (ho' : OpR X (compareOp op') r') (hs' : SimR X.K r' f') (ha : DE X a ta wa) (hb : DE X b tb wb) (hc : DE X c tc wc) (hm : lastMarks [op, op'] [b, c] = false := by with_unfolding_all rfl) :
    DE X (.Compare a [op, op'] [b, c] pos) (tChain r r' ta tb tc) (wChain f f' wa wb wc) := ⟨pe_chain ho ho' ha.pe hb.pe hc.pe hm, sim_chain ha.sm hb.sm hc.sm hs hs'⟩
/-! ### arithmetic -/
def fI (C : Int → Int → Prop) (g : Int → Int → D) : F2 := fun d e M Q => match d, e with
  | .int i, .int j => C i j ∧ Q (g i j) M
  | _, _ => False
def fI0 (g : Int → Int → D) : F2 := fun d e M Q => match d, e with
  | .int i, .int j => Q (g i j) M
  | _, _ => False
theorem sim_I {K : PySem.W.Frag} {C : Int → Int → Prop} {g : Int → Int → V} {g' : Int → Int → D} (h : ∀ i j H, Rep K H (g i j) (g' i j)) : SimR K (rI C g) (fI C g') := by
  intro Z x y d e H M Q Q' S r1 r2 f q
  cases d <;> cases e <;> first | exact f.elim | skip
  cases r1
  cases r2
  exact ⟨_, _, rfl, rfl, f.1, q _ _ H M (Go.refl S) (h _ _ _) f.2⟩
theorem sim_I0 {K : PySem.W.Frag} {g : Int → Int → V} {g' : Int → Int → D} (h : ∀ i j H, Rep K H (g i j) (g' i j)) : SimR K (rI0 g) (fI0 g') := by
  intro Z x y d e H M Q Q' S r1 r2 f q
  cases d <;> cases e <;> first | exact f.elim | skip
  cases r1
  cases r2
  exact ⟨_, _, rfl, rfl, q _ _ H M (Go.refl S) (h _ _ _) f⟩
def addD : F2 := fun d e M Q => match d, e with
  | .int i, .int j => Q (.int (i + j)) M
  | .str i, .str j => i.length + j.length ≤ sizeLine ∧ Q (.str (i ++ j)) M
  | .tup i, .tup j => i.length + j.length ≤ sizeLine ∧ Q (.tup (i ++ j)) M
  | d, e => ∃ i j, (∃ a, d = .tok a ∨ d = .lst i) ∧ (∃ a, e = .tok a ∨ e = .lst j) ∧ seqD M d = some i ∧ seqD M e = some j ∧ i.length + j.length ≤ sizeLine ∧ Q (.lst (i ++ j)) M
theorem lst_of {K : PySem.W.Frag} {Z : Hp} {H : Hp} {M : Mp} {v : V} {d : D} {ds : List D} (S : Sat K Z H M) (r : Rep K (fz Z H M) v d) (h : ∃ a, d = .tok a ∨ d = .lst ds) (e : seqD M d = some ds) : ∃ a vs, v = .ref a ∧ SqL K H a vs ∧ RepL K (fz Z H M) vs ds := by
  obtain ⟨a, h⟩ := h
  rcases h with rfl | rfl
  · cases r
    have e' : (match M a with | some (.lst ds) => some ds | _ => none) = some ds := e
    cases q : M a with
    | none =>
      rw [q] at e'
      cases e'
    | some c =>
      rw [q] at e'
      cases c with
      | lst es =>
        obtain rfl : es = ds := Option.some.inj e'
        obtain ⟨vs, e1, rl⟩ := S.cell a _ q
        exact ⟨_, _, rfl, .inl (.inl e1), rl⟩
      | aux => cases e'
      | drw _ => cases e'
      | tab _ _ => cases e'
      | box => cases e'
      | ins _ _ => cases e'
      | dic _ _ => cases e'
  · cases r with
    | lst hs ha => exact ⟨_, _, rfl, fz_sub.seq hs, ha⟩
/-- list + list -/
def rCatL (K : PySem.W.Frag) : R2 := fun x y H Q => ∃ l b xs zs, x = .ref l ∧ y = .ref b ∧ SqL K H l xs ∧ SqL K H b zs ∧ xs.length + zs.length ≤ sizeLine ∧ ∀ p, H p = none → Q (.ref p) (upd H p (.lst (xs ++ zs)))
theorem op_catL : OpR X (binaryOp .Add) (rCatL X.K) := by
  intro pins s σ H x y v u Q I rx ry h
  obtain ⟨l, b, xs, zs, rfl, rfl, h1, h2, hz, q⟩ := h
  cases rx
  cases ry
  obtain ⟨its, rv, p1, z1⟩ := I.list h1
  obtain ⟨its2, rv2, p2, z2⟩ := I.list h2
  have l1 := rv.length
  have l2 := rv2.length
  obtain ⟨⟨cl1, dd1, da1, sl1⟩, n1, ho1, hc1, hx1, hd1⟩ := p1
  obtain ⟨⟨cl2, dd2, da2, sl2⟩, n2, ho2, hc2, hx2, hd2⟩ := p2
  simp only at hc1 hd1 hc2 hd2
  subst hc1 hd1 hc2 hd2
  have ea : its.toArray ++ its2.toArray = (its ++ its2).toArray := by simp
  refine PySem.concat_meets ⟨_, ho1, rfl⟩ ⟨_, ho2, rfl⟩ PySem.noFill_list_add PySem.seq_list_add PySem.F.slot_list_add PySem.F.entry_list_add (PySem.F.args_list_add_2 _ _) (PyProof.Rows.list_addW l b its.toArray its2.toArray n1 n2 dd1 dd2 sl1 sl2 (by rw [List.size_toArray, List.size_toArray]; omega)) ⟨ho1, ho2, ?_⟩
  rw [ea]
  exact ⟨.ref _, _, I.lnew (t' := s.toks) (rv.append rv2) (by rw [List.length_append]; omega), rfl, q _ I.fresh⟩
theorem sim_cat {K : PySem.W.Frag} {Z : Hp} : ∀ (x y : V) (d e : D) (H : Hp) (M : Mp) (Q : KD) (Q' : VK) (i j : List D), Sat K Z H M → Rep K (fz Z H M) x d → Rep K (fz Z H M) y e → (∃ a, d = .tok a ∨ d = .lst i) → (∃ a, e = .tok a ∨ e = .lst j) → seqD M d = some i → seqD M e = some j → i.length + j.length ≤ sizeLine → Q (.lst (i ++ j)) M →
    (∀ v d' H' M', Go K Z H M H' M' → Rep K (fz Z H' M') v d' → Q d' M' → Q' v H') → rCatL K x y H Q' := by
  intro x y d e H M Q Q' i j S r1 r2 h1 h2 s1 s2 l q z
  obtain ⟨p, vs, rfl, hp, rl⟩ := lst_of S r1 h1 s1
  obtain ⟨p', ws, rfl, hp', rl'⟩ := lst_of S r2 h2 s2
  refine ⟨p, p', vs, ws, rfl, rfl, hp, hp', by rw [rl.len, rl'.len]; exact l, fun o ho => ?_⟩
  obtain ⟨g, n⟩ := Go.laid (o := .lst (vs ++ ws)) S ho
  exact z _ _ _ _ g (.lst (.inl (.inl n)) ((rl.app rl').up g.ex)) q
def rAddA (K : PySem.W.Frag) : R2 := fun x y H Q => rI0 (fun i j => .int (i + j)) x y H Q ∨ (∃ i j, x = .str i ∧ y = .str j ∧ i.length + j.length ≤ sizeLine ∧ Q (.str (i ++ j)) H) ∨ rCatL K x y H Q ∨ rCatA K x y H Q
theorem op_addA : OpR X (binaryOp .Add) (rAddA X.K) := op_add.or (op_add_str.or (op_catL.or op_catA))
theorem sim_addA {K : PySem.W.Frag} : SimR K (rAddA K) addD := by
  intro Z x y d e H M Q Q' S r1 r2 f q
  have viaL : (∃ i j, (∃ a, d = .tok a ∨ d = .lst i) ∧ (∃ a, e = .tok a ∨ e = .lst j) ∧ seqD M d = some i ∧ seqD M e = some j ∧ i.length + j.length ≤ sizeLine ∧ Q (.lst (i ++ j)) M) → rAddA K x y H Q' := fun ⟨i, j, h1, h2, s1, s2, l, z⟩ =>
    .inr (.inr (.inl (sim_cat x y d e H M Q Q' i j S r1 r2 h1 h2 s1 s2 l z q)))
  unfold addD at f
  split at f
  · cases r1
    cases r2
    exact .inl ⟨_, _, rfl, rfl, q _ _ H M (Go.refl S) (.int _) f⟩
  · cases r1
    cases r2
    exact .inr (.inl ⟨_, _, rfl, rfl, f.1, q _ _ H M (Go.refl S) (.str _) f.2⟩)
  · rename_i i j
    cases r1 with
    | @tup p vs _ h1 l1 =>
      cases r2 with
      | @tup p' ws _ h2 l2 =>
        refine .inr (.inr (.inr ⟨p, p', vs, ws, rfl, rfl, sqt_mono fz_sub h1, sqt_mono fz_sub h2, by rw [l1.len, l2.len]; exact f.1, fun en => ?_, fun _ en => ?_, fun _ _ o ho => ?_⟩))
        · subst en
          cases l1
          exact q _ _ H M (Go.refl S) (.tup h2 l2) f.2
        · subst en
          cases l2
          have z := f.2
          rw [List.append_nil] at z
          exact q _ _ H M (Go.refl S) (.tup h1 l1) z
        · obtain ⟨g, n⟩ := Go.laid (o := .tup (vs ++ ws)) S ho
          exact q _ _ _ _ g (.tup (.inl (.inl n)) ((l1.app l2).up g.ex)) f.2
  · exact viaL f
theorem de_add (ha : DE X a ta wa) (hb : DE X b tb wb) : DE X (.BinOp a .Add b pos) (tOp (rAddA X.K) ta tb) (wOp addD wa wb) := de_op op_addA sim_addA ha hb
/-- products: one is not too great, or both together -/
def CM (i j : Int) : Prop := CMul i j ∨ CMulW i j
theorem op_mulM {X : Cx} : OpR X (binaryOp .Mult) (rI CM fun i j => .int (i * j)) := fun pins s σ H x y v u Q I r1 r2 ⟨i, j, e1, e2, c, q⟩ => c.elim (fun c => op_mul pins s σ H x y v u Q I r1 r2 ⟨i, j, e1, e2, c, q⟩) fun c => op_mulW pins s σ H x y v u Q I r1 r2 ⟨i, j, e1, e2, c, q⟩
theorem de_mul (ha : DE X a ta wa) (hb : DE X b tb wb) : DE X (.BinOp a .Mult b pos) (tOp (rI CM fun i j => .int (i * j)) ta tb) (wOp (fI CM fun i j => .int (i * j)) wa wb) := de_op op_mulM (sim_I fun _ _ _ => .int _) ha hb
theorem de_fdiv (ha : DE X a ta wa) (hb : DE X b tb wb) : DE X (.BinOp a .FloorDiv b pos) (tOp (rI CDivW fun i j => .int (i / j)) ta tb) (wOp (fI CDivW fun i j => .int (i / j)) wa wb) := de_op op_fdivW (sim_I fun _ _ _ => .int _) ha hb
theorem de_mod (ha : DE X a ta wa) (hb : DE X b tb wb) : DE X (.BinOp a .Mod b pos) (tOp (rI (fun _ j => 0 < j) fun i j => .int (i % j)) ta tb) (wOp (fI (fun _ j => 0 < j) fun i j => .int (i % j)) wa wb) := de_op op_mod (sim_I fun _ _ _ => .int _) ha hb
theorem de_pow (ha : DE X a ta wa) (hb : DE X b tb wb) : DE X (.BinOp a .Pow b pos) (tOp (rI CPow fun i j => .int (i ^ j.toNat)) ta tb) (wOp (fI CPow fun i j => .int (i ^ j.toNat)) wa wb) := de_op op_pow (sim_I fun _ _ _ => .int _) ha hb
def wNeg (wa : WE) : WE := fun ρ M Q => wa ρ M fun d M1 => match d with
  | .int i => Q (.int (-i)) M1
  | _ => False
theorem de_neg (ha : DE X a ta wa) : DE X (.UnaryOp .USub a pos) (tUn (rU fun i => .int (-i)) ta) (wNeg wa) := by
  refine ⟨pe_un un_neg ha.pe, fun Z ρ M σ H Q Q' s h q => ?_⟩
  refine ha.sm Z ρ M σ H _ _ s h fun x d H1 M1 g1 r1 q1 => ?_
  cases d with
  | int i =>
    cases r1
    exact ⟨i, rfl, q _ _ H1 M1 g1 (.int _) q1⟩
  | _ => exact q1.elim
/-! ### comparisons -/
def eqD2 (neg : Bool) : F2 := fun d e M Q => (∃ n, n ≤ 60 ∧ fit n (res M d) ∧ fit n (res M e)) ∧ Q (.bl (if neg then !eqD (res M d) (res M e) else eqD (res M d) (res M e))) M
theorem sim_eq {K : PySem.W.Frag} : SimR K (rEqD K) (eqD2 false) := by
  intro Z x y d e H M Q Q' S r1 r2 ⟨⟨n, hn, f1, f2⟩, f⟩ q
  exact ⟨_, _, Rep.dp n _ _ f1 (res_rep S r1), Rep.dp n _ _ f2 (res_rep S r2), fit_shaped f1 (by omega), fit_shaped f2 (by omega), q _ _ H M (Go.refl S) (.bl _) f⟩
theorem sim_ne {K : PySem.W.Frag} : SimR K (rNeD K) (eqD2 true) := by
  intro Z x y d e H M Q Q' S r1 r2 ⟨⟨n, hn, f1, f2⟩, f⟩ q
  exact ⟨_, _, Rep.dp n _ _ f1 (res_rep S r1), Rep.dp n _ _ f2 (res_rep S r2), fit_shaped f1 (by omega), fit_shaped f2 (by omega), q _ _ H M (Go.refl S) (.bl _) f⟩
theorem op_eqG (hr : Room k X.A) : OpR X (compareOp .Eq) (rEqD X.K) := op_eqD hr.units
theorem op_neG (hr : Room k X.A) : OpR X (compareOp .NotEq) (rNeD X.K) := op_neD hr.units
abbrev fLt : F2 := fI0 fun i j => .bl (decide (i < j))
abbrev fLe : F2 := fI0 fun i j => .bl (decide (i ≤ j))
abbrev fGt : F2 := fI0 fun i j => .bl (decide (j < i))
abbrev fGe : F2 := fI0 fun i j => .bl (decide (j ≤ i))
theorem sim_lt {K : PySem.W.Frag} : SimR K (rI0 fun i j => .bl (decide (i < j))) fLt := sim_I0 fun _ _ _ => .bl _
theorem sim_le {K : PySem.W.Frag} : SimR K (rI0 fun i j => .bl (decide (i ≤ j))) fLe := sim_I0 fun _ _ _ => .bl _
theorem sim_gt {K : PySem.W.Frag} : SimR K (rI0 fun i j => .bl (decide (j < i))) fGt := sim_I0 fun _ _ _ => .bl _
theorem sim_ge {K : PySem.W.Frag} : SimR K (rI0 fun i j => .bl (decide (j ≤ i))) fGe := sim_I0 fun _ _ _ => .bl _
def fIsN (neg : Bool) : F2 := fun d e M Q => match d, e with
  | .non, .non => Q (.bl (!neg)) M
  | _, .non => Q (.bl neg) M
  | _, _ => False
theorem rep_non {K : PySem.W.Frag} {H : Hp} {x : V} {d : D} (r : Rep K H x d) (h : d ≠ .non) : x ≠ .non := fun z => by
  subst z
  cases r
  exact h rfl
theorem sim_notN {K : PySem.W.Frag} : SimR K (fun x y H Q => y = .non ∧ Q (.bl (!decide (x = .non))) H) (fIsN true) := by
  intro Z x y d e H M Q Q' S r1 r2 f q
  unfold fIsN at f
  split at f
  · cases r1
    cases r2
    exact ⟨rfl, q _ _ H M (Go.refl S) (.bl _) f⟩
  · rename_i h
    cases r2
    rw [decide_eq_false (rep_non r1 h)]
    exact ⟨rfl, q _ _ H M (Go.refl S) (.bl _) f⟩
  · exact f.elim
/-! ### tests -/
/-- a bool's own value as a test: a name, a call, a subscript .. -/
theorem dt_val (h : DE X e t w) (he : ∀ whole, isTrue e X.env whole = (do let v ← whole; standAt e.pos; holding [v] (truthy v)) := by intro _; rfl) : DT X e (tB t) (wB w) := ⟨pt_val h.pe he, sim_test h.sm⟩
def wNot (w : WT) : WT := fun ρ M Q => w ρ M fun b M1 => Q (!b) M1
def wAnd (w u : WT) : WT := fun ρ M Q => w ρ M fun b M1 => if b = true then u ρ M1 Q else Q false M1
def wOr (w u : WT) : WT := fun ρ M Q => w ρ M fun b M1 => if b = true then Q true M1 else u ρ M1 Q
variable {tA tB' : TT} {wA wB' : WT} {rest : List Expr}
theorem dt_not (ha : DT X a tA wA) : DT X (.UnaryOp .Not a pos) (tNot tA) (wNot wA) := ⟨pt_not ha.pe, fun Z ρ M σ H Q Q' s h q => ha.sm Z ρ M σ H _ _ s h fun b H1 M1 g z => q _ H1 M1 g z⟩
theorem sim_and {K : PySem.W.Frag} (ha : SimT K tA wA) (hb : SimT K tB' wB') : SimT K (tAnd tA tB') (wAnd wA wB') := by
  intro Z ρ M σ H Q Q' s h q
  refine ha Z ρ M σ H _ _ s h fun b H1 M1 g z => ?_
  cases b with
  | true => exact hb Z ρ M1 σ H1 _ _ (s.go g) z fun b' H2 M2 g2 z2 => q b' H2 M2 (g.trans g2) z2
  | false => exact q _ H1 M1 g z
theorem sim_or {K : PySem.W.Frag} (ha : SimT K tA wA) (hb : SimT K tB' wB') : SimT K (tOr tA tB') (wOr wA wB') := by
  intro Z ρ M σ H Q Q' s h q
  refine ha Z ρ M σ H _ _ s h fun b H1 M1 g z => ?_
  cases b with
  | false => exact hb Z ρ M1 σ H1 _ _ (s.go g) z fun b' H2 M2 g2 z2 => q b' H2 M2 (g.trans g2) z2
  | true => exact q _ H1 M1 g z
theorem dw_and1 (ha : DT X a tA wA) : DW X (.BoolOp .And [a] pos) tA wA := ⟨pw_and1 ha.pe, ha.sm⟩
theorem dw_or1 (ha : DT X a tA wA) : DW X (.BoolOp .Or [a] pos) tA wA := ⟨pw_or1 ha.pe, ha.sm⟩
theorem dw_and (ha : DT X a tA wA) (hb : DW X (.BoolOp .And (b :: rest) pos) tB' wB') : DW X (.BoolOp .And (a :: b :: rest) pos) (tAnd tA tB') (wAnd wA wB') := ⟨pw_and ha.pe hb.pe, sim_and ha.sm hb.sm⟩
theorem dw_or (ha : DT X a tA wA) (hb : DW X (.BoolOp .Or (b :: rest) pos) tB' wB') : DW X (.BoolOp .Or (a :: b :: rest) pos) (tOr tA tB') (wOr wA wB') := ⟨pw_or ha.pe hb.pe, sim_or ha.sm hb.sm⟩
theorem DW.dt {t : TT} {w : WT} (h : DW X e t w) : DT X e t w := ⟨h.pe.pt, h.sm⟩
/-! .. as values -/
def wAndV (wa wb : WE) : WE := fun ρ M Q => wa ρ M fun d M1 => match d with
  | .bl true => wb ρ M1 Q
  | .bl false => Q (.bl false) M1
  | _ => False
def wOrV (wa wb : WE) : WE := fun ρ M Q => wa ρ M fun d M1 => match d with
  | .bl false => wb ρ M1 Q
  | .bl true => Q (.bl true) M1
  | _ => False
def wNotV (wa : WE) : WE := fun ρ M Q => wa ρ M fun d M1 => match d with
  | .bl b => Q (.bl (!b)) M1
  | _ => False
theorem de_one {op} (h : DE X a t w) : DE X (.BoolOp op [a] pos) t w := ⟨pe_one h.pe, h.sm⟩
theorem de_and (ha : DE X a ta wa) (hb : DE X (.BoolOp .And (b :: rest) pos) tb wb) : DE X (.BoolOp .And (a :: b :: rest) pos) (tAndV ta tb) (wAndV wa wb) := by
  refine ⟨pe_and ha.pe hb.pe, fun Z ρ M σ H Q Q' s h q => ?_⟩
  refine ha.sm Z ρ M σ H _ _ s h fun x d H1 M1 g1 r1 q1 => ?_
  cases d with
  | bl y =>
    cases r1
    cases y with
    | true => exact ⟨true, rfl, hb.sm Z ρ M1 σ H1 _ _ (s.go g1) q1 fun v d2 H2 M2 g2 r2 q2 => q v d2 H2 M2 (g1.trans g2) r2 q2⟩
    | false => exact ⟨false, rfl, q _ _ H1 M1 g1 (.bl _) q1⟩
  | _ => exact q1.elim
theorem de_or (ha : DE X a ta wa) (hb : DE X (.BoolOp .Or (b :: rest) pos) tb wb) : DE X (.BoolOp .Or (a :: b :: rest) pos) (tOrV ta tb) (wOrV wa wb) := by
  refine ⟨pe_or ha.pe hb.pe, fun Z ρ M σ H Q Q' s h q => ?_⟩
  refine ha.sm Z ρ M σ H _ _ s h fun x d H1 M1 g1 r1 q1 => ?_
  cases d with
  | bl y =>
    cases r1
    cases y with
    | false => exact ⟨false, rfl, hb.sm Z ρ M1 σ H1 _ _ (s.go g1) q1 fun v d2 H2 M2 g2 r2 q2 => q v d2 H2 M2 (g1.trans g2) r2 q2⟩
    | true => exact ⟨true, rfl, q _ _ H1 M1 g1 (.bl _) q1⟩
  | _ => exact q1.elim
def wIf (c : WT) (wa wb : WE) : WE := fun ρ M Q => c ρ M fun b M1 => if b = true then wa ρ M1 Q else wb ρ M1 Q
theorem de_if {c : Expr} (hc : DT X c tA wA) (ha : DE X a ta wa) (hb : DE X b tb wb) : DE X (.IfExp c a b pos) (tIf tA ta tb) (wIf wA wa wb) := by
  refine ⟨pe_ifExp hc.pe ha.pe hb.pe, fun Z ρ M σ H Q Q' s h q => ?_⟩
  refine hc.sm Z ρ M σ H _ _ s h fun y H1 M1 g1 q1 => ?_
  cases y with
  | true => exact ha.sm Z ρ M1 σ H1 _ _ (s.go g1) q1 fun v d2 H2 M2 g2 r2 q2 => q v d2 H2 M2 (g1.trans g2) r2 q2
  | false => exact hb.sm Z ρ M1 σ H1 _ _ (s.go g1) q1 fun v d2 H2 M2 g2 r2 q2 => q v d2 H2 M2 (g1.trans g2) r2 q2
/-! ### arguments, displays, calls -/
def wNil : WA := fun _ M Q => Q [] M
def wCons (w : WE) (r : WA) : WA := fun ρ M Q => w ρ M fun d M1 => r ρ M1 fun ds M2 => Q (d :: ds) M2
variable {tr : TA} {wr : WA}
theorem sim_nil {K : PySem.W.Frag} : SimA K tNil wNil := fun Z ρ M σ H Q Q' s h q => q [] [] H M s.refl .nil h
theorem sim_cons {K : PySem.W.Frag} (ha : SimE K te we) (hr : SimA K tr wr) : SimA K (tCons te tr) (wCons we wr) := by
  intro Z ρ M σ H Q Q' s h q
  refine ha Z ρ M σ H _ _ s h fun x d H1 M1 g1 r1 q1 => ?_
  refine hr Z ρ M1 σ H1 _ _ (s.go g1) q1 fun xs ds H2 M2 g2 r2 q2 => ?_
  exact q (x :: xs) (d :: ds) H2 M2 (g1.trans g2) (.cons (r1.up g2.ex) r2) q2
theorem da_nil : DA X [] tNil wNil := ⟨pa_nil, sim_nil⟩
theorem da_cons (ha : DE X e te we) (hr : DA X es tr wr) (hs : starEach (e :: es) X.env = (false, eval e X.env) :: starEach es X.env := by rfl) : DA X (e :: es) (tCons te tr) (wCons we wr) := ⟨pa_cons ha.pe hr.pe hs, sim_cons ha.sm hr.sm⟩
def wTup (r : WA) : WE := fun ρ M Q => r ρ M fun ds M1 => ds.length ≤ sizeLine ∧ Q (.tup ds) M1
def wLst (r : WA) : WE := fun ρ M Q => r ρ M fun ds M1 => ds.length ≤ sizeLine ∧ Q (.lst ds) M1
theorem de_tup {x1} (h : DA X es tr wr) : DE X (.Tuple es x1 pos) (tTup tr) (wTup wr) := by
  refine ⟨pe_tup h.pe, fun Z ρ M σ H Q Q' s hh q => ?_⟩
  refine h.sm Z ρ M σ H _ _ s hh fun xs ds H1 M1 g1 r1 ⟨l, q1⟩ => ⟨by rw [r1.len]; exact l, fun p hp => ?_⟩
  obtain ⟨g, n⟩ := Go.laid (o := .tup xs) g1.sat hp
  exact q _ _ _ _ (g1.trans g) (.tup (.inl (.inl n)) (r1.up g.ex)) q1
theorem de_lst (h : DA X es tr wr) : DE X (.List es pos) (tLst tr) (wLst wr) := by
  refine ⟨pe_lst h.pe, fun Z ρ M σ H Q Q' s hh q => ?_⟩
  refine h.sm Z ρ M σ H _ _ s hh fun xs ds H1 M1 g1 r1 ⟨l, q1⟩ => ⟨by rw [r1.len]; exact l, fun p hp => ?_⟩
  obtain ⟨g, n⟩ := Go.laid (o := .lst xs) g1.sat hp
  exact q _ _ _ _ (g1.trans g) (.lst (.inl (.inl n)) (r1.up g.ex)) q1
/-- a list that is to change -/
def wLstM (r : WA) : WE := fun ρ M Q => r ρ M fun ds M1 => ds.length ≤ sizeLine ∧ ∀ p, M1 p = none → Q (.tok p) (setM M1 p (.lst ds))
theorem de_lstM (h : DA X es tr wr) : DE X (.List es pos) (tLst tr) (wLstM wr) := by
  refine ⟨pe_lst h.pe, fun Z ρ M σ H Q Q' s hh q => ?_⟩
  refine h.sm Z ρ M σ H _ _ s hh fun xs ds H1 M1 g1 r1 ⟨l, q1⟩ => ⟨by rw [r1.len]; exact l, fun p hp => ?_⟩
  exact q _ _ _ _ (g1.trans (Go.putL g1.sat (.inl hp) r1)) (.tok p) (q1 p (g1.sat.free hp))
/-- f(e, ..) by its contract -/
def wCall (F : Fs) (r : WA) : WE := fun ρ M Q => r ρ M fun ds M1 => F ds M1 Q fun _ _ _ => False
theorem sim_call {K : PySem.W.Frag} {F : Fs} (ha : SimA K tr wr) : SimE K (tCallG (lift K F) [] E0 tr) (wCall F wr) := by
  intro Z ρ M σ H Q Q' s h q
  refine ha Z ρ M σ H _ _ s h fun xs ds H1 M1 g1 r1 q1 => ?_
  show lift K F (xs ++ []) H1 Q' E0
  rw [List.append_nil]
  exact ⟨Z, ds, M1, Q, _, g1.sat, r1, q1, fun v d H2 M2 g2 r2 q2 => q v d H2 M2 (g1.trans g2) r2 q2, fun _ _ _ _ _ _ _ _ _ _ _ _ z => z.elim⟩
variable {f : Addr} {fd : FuncData} {ps : List Str} {F : Fs} {x : Str} {p : Pos}
theorem de_call (G : FnG X.prog X.w X.K X.mg X.base k f fd ps (lift X.K F)) (hr : Room k X.A) (gd : X.A.guards = some []) (hm : X.mg x = some (.ref f)) (hk : PySem.W.keepIn X.K (.ref f) = true) (hb : Binds X.K fd ps [])
    (ha : DA X (e :: es) tr wr) (hg : Gl X x := by rfl) (hdb : (x == ("__debug__" : Str)) = false := by decide) (he : starEach (e :: es) X.env = (false, eval e X.env) :: starEach es X.env := by rfl) (hpl : (backTo pos (starEach es X.env)).any (·.1) = false := by rfl) :
    DE X (.Call (.Name x p) (e :: es) [] pos) (tCallG (lift X.K F) [] E0 tr) (wCall F wr) := ⟨pe_callG G hr gd hg hm hk hb .nil passL ha.pe hdb he hpl, sim_call ha.sm⟩
end
end L3
namespace L3
open PySem L2
section
variable {X : Cx} {E : XK} {e a b c : Expr} {es : List Expr} {t ta tb tc te : TE} {w wa wb wc we : WE} {pos : Pos} {k : Nat} {tr : TA} {wr : WA}
/-! ### keywords -/
structure DK (X : Cx) (kws : List Keyword) (t : TA) (w : WA) : Prop where
  pe : PK X kws t
  sm : SimA X.K t w
variable {nm : Option Str} {kpos : Pos} {kws : List Keyword} {tk : TA} {wk : WA}
theorem dk_nil : DK X [] tNil wNil := ⟨pk_nil, sim_nil⟩
theorem dk_cons (ha : DE X e te we) (hr : DK X kws tk wk) : DK X (⟨nm, e, kpos⟩ :: kws) (tCons te tk) (wCons we wk) := ⟨pk_cons ha.pe hr.pe, sim_cons ha.sm hr.sm⟩
def permD (idx : List Nat) (ds es : List D) : List D := idx.map fun i => (ds ++ es).getD i .non
theorem rep_getD {K : PySem.W.Frag} {H : Hp} : ∀ {vs : List V} {ds : List D} (i : Nat), RepL K H vs ds → Rep K H (vs.getD i .non) (ds.getD i .non)
  | _, _, _, .nil => .non
  | _, _, 0, .cons r _ => r
  | _, _, i + 1, .cons _ q => rep_getD i q
theorem perm_repL {K : PySem.W.Frag} {H : Hp} (idx : List Nat) {vs zs : List V} {ds es : List D} (r : RepL K H vs ds) (q : RepL K H zs es) : RepL K H (perm idx vs zs) (permD idx ds es) := by
  have ra := r.app q
  unfold perm permD
  induction idx with
  | nil => exact .nil
  | cons i is ih => exact .cons (rep_getD i ra) ih
def wCallK (n m : Nat) (idx : List Nat) (F : Fs) (r rk : WA) : WE := fun ρ M Q => r ρ M fun ds M1 => rk ρ M1 fun es M2 => ds.length = n ∧ es.length = m ∧ F (permD idx ds es) M2 Q fun _ _ _ => False
theorem sim_callK {K : PySem.W.Frag} {F : Fs} {n m : Nat} {idx : List Nat} (ha : SimA K tr wr) (hk : SimA K tk wk) : SimE K (tCallGK n m idx (lift K F) E0 tr tk) (wCallK n m idx F wr wk) := by
  intro Z ρ M σ H Q Q' s h q
  refine ha Z ρ M σ H _ _ s h fun xs ds H1 M1 g1 r1 q1 => ?_
  refine hk Z ρ M1 σ H1 _ _ (s.go g1) q1 fun ys es H2 M2 g2 r2 ⟨l1, l2, q2⟩ => ⟨by rw [r1.len]; exact l1, by rw [r2.len]; exact l2, ?_⟩
  exact ⟨Z, _, M2, Q, _, g2.sat, perm_repL idx (r1.up g2.ex) r2, q2, fun v d H3 M3 g3 r3 q3 => q v d H3 M3 ((g1.trans g2).trans g3) r3 q3, fun _ _ _ _ _ _ _ _ _ _ _ _ z => z.elim⟩
variable {f : Addr} {fd : FuncData} {ps : List Str} {F : Fs} {x : Str} {p : Pos}
theorem de_callK0 {ks : List Str} {idx : List Nat} (G : FnG X.prog X.w X.K X.mg X.base k f fd ps (lift X.K F)) (hr : Room k X.A) (gd : X.A.guards = some []) (hm : X.mg x = some (.ref f)) (hk : PySem.W.keepIn X.K (.ref f) = true) (hb : KB X.K fd ps 0 ks idx)
    (hkw : DK X kws tk wk) (hg : Gl X x := by rfl) (hall : (backToKw pos (keywordEach kws X.env)).all (·.1.isSome) = true := by rfl) (hks : (backToKw pos (keywordEach kws X.env)).filterMap (·.1) = ks := by rfl)
    (hdb : (x == ("__debug__" : Str)) = false := by decide)
    (hpl : ((backTo pos (starEach [] X.env)).any (·.1) || (backToKw pos (keywordEach kws X.env)).any (·.1.isNone)) = false := by rfl) :
    DE X (.Call (.Name x p) [] kws pos) (tCallGK 0 ks.length idx (lift X.K F) E0 tNil tk) (wCallK 0 ks.length idx F wNil wk) := ⟨pe_callGK0 G hr gd hg hm hk hb passL hkw.pe hall hks hdb hpl, sim_callK sim_nil hkw.sm⟩
/-! ### places of lists, tuples, texts -/
def ixD : F2 := fun d e M Q => match d, e with
  | .str z, .int i => z.length ≤ sizeLine ∧ ∃ c, atI z.cps.toList i = some c ∧ Q (.str ⟨#[c]⟩) M
  | d, .int i => ∃ ds x, seqD M d = some ds ∧ atI ds i = some x ∧ Q x M
  | _, _ => False
theorem atI_len {α β : Type} {xs : List α} {ys : List β} {i : Int} {x : α} (h : atI xs i = some x) (l : xs.length = ys.length) : ∃ (y : β) (j : Nat), atI ys i = some y ∧ ys[j]? = some y ∧ xs[j]? = some x := by
  unfold atI at h ⊢
  rw [l] at h
  cases q : ixN ys.length i with
  | none =>
    rw [q] at h
    cases h
  | some j =>
    rw [q] at h
    have h' : xs[j]? = some x := h
    have hj : j < ys.length := by
      rw [← l]
      exact (List.getElem?_eq_some_iff.mp h').1
    exact ⟨ys[j], j, List.getElem?_eq_getElem hj, List.getElem?_eq_getElem hj, h'⟩
theorem sim_ix {K : PySem.W.Frag} : SimR K (rIx K) ixD := by
  intro Z x y d e H M Q Q' S r1 r2 f q
  unfold ixD at f
  split at f
  · cases r1
    cases r2
    obtain ⟨l, c, ha, z⟩ := f
    exact .inr (.inr ⟨_, _, c, rfl, rfl, l, ha, q _ _ H M (Go.refl S) (.str _) z⟩)
  · cases r2
    obtain ⟨ds, x', hs, ha, z⟩ := f
    obtain ⟨a, vs, rfl, hv, rl⟩ := seq_of S r1 hs
    obtain ⟨v, j, a1, a2, a3⟩ := atI_len ha rl.len.symm
    obtain ⟨v', b1, b2⟩ := rl.get a3
    rw [a2] at b1
    cases b1
    rcases hv with hv | hv
    · exact .inl ⟨a, vs, _, v, rfl, rfl, hv, a1, q _ _ H M (Go.refl S) b2 z⟩
    · exact .inr (.inl ⟨a, vs, _, v, rfl, rfl, hv, a1, q _ _ H M (Go.refl S) b2 z⟩)
  · exact f.elim
theorem de_ix (ha : DE X a ta wa) (hb : DE X b tb wb) (hs : PlainIx b := by intro _ _; rfl) : DE X (.Subscript a b pos) (tOp (rIx X.K) ta tb) (wOp ixD wa wb) := ⟨pe_ix ix_seq ha.pe hb.pe hs, sim_op ha.sm hb.sm sim_ix⟩
/-! ### slices -/
abbrev WO := En → Mp → (Option Int → Mp → Prop) → Prop
def SimO (K : PySem.W.Frag) (t : TO) (w : WO) : Prop := ∀ (Z : Hp) (ρ : En) (M : Mp) (σ : L2.St) (H : Hp) (Q : Option Int → Mp → Prop) (Q' : Option Int → Hp → Prop), R3 K Z ρ M σ H → w ρ M Q → (∀ b H' M', Go K Z H M H' M' → Q b M' → Q' b H') → t σ H Q'
structure DO (X : Cx) (e : Option Expr) (t : TO) (w : WO) : Prop where
  pe : PO X e t
  sm : SimO X.K t w
def wNoP : WO := fun _ M Q => Q none M
def wPart (w : WE) : WO := fun ρ M Q => w ρ M fun d M1 => match d with
  | .int i => Q (some i) M1
  | _ => False
theorem do_none : DO X none tNoPart wNoP := ⟨po_none, fun Z ρ M σ H Q Q' s h q => q _ H M s.refl h⟩
theorem do_some (h : DE X e te we) : DO X (some e) (tPart te) (wPart we) := by
  refine ⟨po_some h.pe, fun Z ρ M σ H Q Q' s hh q => ?_⟩
  refine h.sm Z ρ M σ H _ _ s hh fun x d H1 M1 g1 r1 q1 => ?_
  cases d with
  | int i =>
    cases r1
    exact ⟨i, rfl, q _ H1 M1 g1 q1⟩
  | _ => exact q1.elim
def cutD (xs : List D) (lo hi : Option Int) : List D := (xs.drop (HT.sIx xs.length 0 lo)).take (HT.sIx xs.length xs.length hi - HT.sIx xs.length 0 lo)
theorem cut_rep {K : PySem.W.Frag} {H : Hp} {vs : List V} {ds : List D} (r : RepL K H vs ds) (lo hi : Option Int) : RepL K H (cutV vs lo hi) (cutD ds lo hi) := by
  unfold cutV cutD
  rw [r.len]
  exact (r.drop _).take _
def slD : D → Option Int → Option Int → Mp → KD → Prop := fun d lo hi M Q => match d with
  | .tup ds => Q (.tup (cutD ds lo hi)) M
  | .str z => z.length ≤ sizeLine ∧ Q (.str (cutS z lo hi)) M
  | d => ∃ ds, (∃ a, d = .tok a ∨ d = .lst ds) ∧ seqD M d = some ds ∧ Q (.lst (cutD ds lo hi)) M
def rSlU (K : PySem.W.Frag) : V → Option Int → Option Int → Hp → VK → Prop := fun x lo hi H Q => rSlL K x lo hi H Q ∨ rSlA K x lo hi H Q ∨ rSlS x lo hi H Q
theorem sl_any : SlR X (rSlU X.K) := sl_list.or (sl_tupA.or sl_str)
def wSl (w : WE) (wl wh : WO) : WE := fun ρ M Q => w ρ M fun d M1 => wl ρ M1 fun l M2 => wh ρ M2 fun u M3 => slD d l u M3 Q
theorem sim_sl {K : PySem.W.Frag} {tl th : TO} {wl wh : WO} (h : SimE K te we) (hl : SimO K tl wl) (hh : SimO K th wh) : SimE K (tSl (rSlU K) te tl th) (wSl we wl wh) := by
  intro Z ρ M σ H Q Q' s hw q
  refine h Z ρ M σ H _ _ s hw fun x d H1 M1 g1 r1 q1 => ?_
  refine hl Z ρ M1 σ H1 _ _ (s.go g1) q1 fun lo H2 M2 g2 q2 => ?_
  refine hh Z ρ M2 σ H2 _ _ (s.go (g1.trans g2)) q2 fun hi H3 M3 g3 q3 => ?_
  have g := (g1.trans g2).trans g3
  have r3 := (r1.up g2.ex).up g3.ex
  unfold slD at q3
  split at q3
  · rename_i ds
    cases r3 with
    | @tup a vs _ hs rl =>
      refine .inr (.inl ⟨a, vs, rfl, sqt_mono fz_sub hs, fun ⟨e1, e2⟩ => ?_, fun _ p hp => ?_⟩)
      · have e : cutD ds lo hi = ds := by
          unfold cutD
          rw [← rl.len, e1, e2, Nat.sub_zero, List.drop_zero, rl.len, List.take_length]
        rw [e] at q3
        exact q _ _ H3 M3 g (.tup hs rl) q3
      · obtain ⟨g4, n⟩ := Go.laid (o := .tup (cutV vs lo hi)) g3.sat hp
        exact q _ _ _ _ (g.trans g4) (.tup (.inl (.inl n)) ((cut_rep rl lo hi).up g4.ex)) q3
  · rename_i z
    cases r3
    exact .inr (.inr ⟨z, rfl, q3.1, q _ _ H3 M3 g (.str _) q3.2⟩)
  · obtain ⟨ds, hd, hs, z⟩ := q3
    obtain ⟨a, vs, rfl, ha, rl⟩ := lst_of g3.sat r3 hd hs
    refine .inl ⟨a, vs, rfl, ha, fun p hp => ?_⟩
    obtain ⟨g4, n⟩ := Go.laid (o := .lst (cutV vs lo hi)) g3.sat hp
    exact q _ _ _ _ (g.trans g4) (.lst (.inl (.inl n)) ((cut_rep rl lo hi).up g4.ex)) z
theorem de_slice {lo hi : Option Expr} {tl th : TO} {wl wh : WO} {p2 : Pos} (he : DE X e te we) (hl : DO X lo tl wl) (hu : DO X hi th wh) : DE X (.Subscript e (.Slice lo hi none p2) pos) (tSl (rSlU X.K) te tl th) (wSl we wl wh) := ⟨pe_slice sl_any he.pe hl.pe hu.pe, sim_sl he.sm hl.sm hu.sm⟩
end
end L3
namespace L3
open PySem L2
section
variable {X : Cx} {E : WX3} {e a b c : Expr} {es : List Expr} {t ta tb tc te : TE} {w wa wb wc we : WE} {pos : Pos} {k : Nat} {tr : TA} {wr : WA} {st : Stmt} {rest : List Stmt} {ts tu : TS} {ws wu : WS} {tA : TT} {wA : WT}
/-! ### truth of any value -/
/-! ### blocks and small statements -/
def wNext : WS := fun D ρ M => D.nx ρ M
def wSeq (w u : WS) : WS := fun D ρ M => w { D with nx := u D } ρ M
theorem sim_seq {K : PySem.W.Frag} (h1 : SimS K E ts ws) (h2 : SimS K E tu wu) : SimS K E (tSeq ts tu) (wSeq ws wu) := by
  intro Z D3 ρ M σ H D r h en
  refine h1 Z _ ρ M σ H _ r h ⟨fun ρ' M' σ' H' r' g n => ?_, en.rt, en.bk, en.ct, en.xr⟩
  exact h2 Z D3 ρ' M' σ' H' D r' n (en.go g)
theorem dss_nil : DSs X E [] tNext wNext := ⟨pss_nil, fun Z D3 ρ M σ H D r h en => en.nx ρ M σ H r r.refl h⟩
theorem dss_cons (h1 : DS X E st ts ws) (h2 : DSs X E rest tu wu) : DSs X E (st :: rest) (tSeq ts tu) (wSeq ws wu) := ⟨pss_cons h1.pe h2.pe, sim_seq h1.sm h2.sm⟩
theorem dss_one (h1 : DS X E st ts ws) : DSs X E [st] ts ws := ⟨pss_one h1.pe, h1.sm⟩
def wCont : WS := fun D ρ M => D.ct ρ M
theorem ds_cont : DS X E (.Continue pos) tCont wCont := ⟨ps_continue, fun Z D3 ρ M σ H D r h en => en.ct ρ M σ H r r.refl h⟩
def wDrop (w : WE) : WS := fun D ρ M => w ρ M fun _ M1 => D.nx ρ M1
theorem ds_expr (he : DE X e te we) (hs : swapsWith e none pos.line X.env = pure false := by rfl) : DS X E (.Expr e pos) (tDrop te) (wDrop we) :=
  ⟨ps_expr he.pe hs, fun Z D3 ρ M σ H D r h en => he.sm Z ρ M σ H _ _ r h fun v d H1 M1 g r1 q => en.nx ρ M1 σ H1 (r.go g) g q⟩
def wRet (w : WE) : WS := fun D ρ M => w ρ M D.rt
theorem ds_ret (he : DE X e te we) : DS X E (.Return (some e) pos) (tRet te) (wRet we) := ⟨ps_ret he.pe, fun Z D3 ρ M σ H D r h en => he.sm Z ρ M σ H _ _ r h fun v d H1 M1 g r1 q => en.rt v d H1 M1 g r1 q⟩
def wRetN : WS := fun D _ M => D.rt .non M
def wIfS (c : WT) (w u : WS) : WS := fun D ρ M => c ρ M fun b M1 => if b = true then w D ρ M1 else u D ρ M1
theorem ds_if {c : Expr} {p q : List Stmt} (hc : DT X c tA wA) (hp : DSs X E p ts ws) (hq : DSs X E q tu wu) : DS X E (.If c p q pos) (tIfS tA ts tu) (wIfS wA ws wu) := by
  refine ⟨ps_if hc.pe hp.pe hq.pe, fun Z D3 ρ M σ H D r h en => hc.sm Z ρ M σ H _ _ r h fun b H1 M1 g z => ?_⟩
  cases b with
  | true => exact hp.sm Z D3 ρ M1 σ H1 D (r.go g) z (en.go g)
  | false => exact hq.sm Z D3 ρ M1 σ H1 D (r.go g) z (en.go g)
/-! ### targets -/
abbrev WG := D → En → Mp → (En → Mp → Prop) → Prop
abbrev WGs := List D → En → Mp → (En → Mp → Prop) → Prop
def SimG (K : PySem.W.Frag) (t : TG) (w : WG) : Prop := ∀ (Z : Hp) (v : V) (d : D) (ρ : En) (M : Mp) (σ : L2.St) (H : Hp) (Q : En → Mp → Prop) (Q' : L2.St → Hp → Prop), R3 K Z ρ M σ H → Rep K (fz Z H M) v d → w d ρ M Q → (∀ ρ' M' σ' H', R3 K Z ρ' M' σ' H' → Go K Z H M H' M' → Q ρ' M' → Q' σ' H') → t v σ H Q'
def SimGs (K : PySem.W.Frag) (t : TGs) (w : WGs) : Prop := ∀ (Z : Hp) (v : List V) (d : List D) (ρ : En) (M : Mp) (σ : L2.St) (H : Hp) (Q : En → Mp → Prop) (Q' : L2.St → Hp → Prop), R3 K Z ρ M σ H → RepL K (fz Z H M) v d → w d ρ M Q → (∀ ρ' M' σ' H', R3 K Z ρ' M' σ' H' → Go K Z H M H' M' → Q ρ' M' → Q' σ' H') → t v σ H Q'
structure DG (X : Cx) (e : Expr) (t : TG) (w : WG) : Prop where
  pe : PG X e t
  sm : SimG X.K t w
structure DGs (X : Cx) (e : List Expr) (t : TGs) (w : WGs) : Prop where
  pe : PGs X e t
  sm : SimGs X.K t w
def wgName (i : Nat) : WG := fun d ρ M Q => Q (ρ.set i (some d)) M
theorem sim_gname {K : PySem.W.Frag} (i : Nat) : SimG K (gName i) (wgName i) := fun Z v d ρ M σ H Q Q' r rp h q => q _ M _ H ⟨r.sat, r.env.set i rp⟩ r.refl h
theorem dg_name (i : Nat) {x : Str} (hN : X.N.Nodup) (hi : X.N[i]? = some x := by rfl) (hx : Loc X.env.scope x := by first | exact .inl rfl | exact .inr rfl) (hf : X.fn x = true ∨ X.env.scope.names.lookup x = some .local := by first | exact .inl rfl | exact .inr rfl) : DG X (.Name x pos) (gName i) (wgName i) := ⟨pg_name hN hi hx hf, sim_gname i⟩
def wgNil : WGs := fun ds ρ M Q => ds = [] ∧ Q ρ M
def wgCons (w : WG) (u : WGs) : WGs := fun ds ρ M Q => match ds with
  | [] => False
  | d :: r => w d ρ M fun ρ' M' => u r ρ' M' Q
variable {tg : TG} {wg : WG} {tgs : TGs} {wgs : WGs}
theorem dgs_nil : DGs X [] gNil wgNil := ⟨pgs_nil, fun Z v d ρ M σ H Q Q' r rp h q => by
  obtain ⟨rfl, h⟩ := h
  cases rp
  exact ⟨rfl, q ρ M σ H r r.refl h⟩⟩
theorem dgs_cons (h1 : DG X e tg wg) (h2 : DGs X es tgs wgs) (hs : (assignEach (e :: es) X.env).map (·.2) = assign e X.env :: (assignEach es X.env).map (·.2) := by rfl) : DGs X (e :: es) (gCons tg tgs) (wgCons wg wgs) := by
  refine ⟨pgs_cons h1.pe h2.pe hs, fun Z v d ρ M σ H Q Q' r rp h q => ?_⟩
  cases rp with
  | nil => exact h.elim
  | cons r1 r2 =>
    refine ⟨_, _, rfl, h1.sm Z _ _ ρ M σ H _ _ r r1 h fun ρ1 M1 σ1 H1 s1 g1 z => ?_⟩
    exact h2.sm Z _ _ ρ1 M1 σ1 H1 _ _ s1 (r2.up g1.ex) z fun ρ2 M2 σ2 H2 s2 g2 z2 => q ρ2 M2 σ2 H2 s2 (g1.trans g2) z2
def wgTup (n : Nat) (w : WGs) : WG := fun d ρ M Q => match d with
  | .tup ds => ds.length = n ∧ w ds ρ M Q
  | _ => False
theorem sim_gtup {K : PySem.W.Frag} {n : Nat} (h : SimGs K tgs wgs) : SimG K (gTup K n tgs) (wgTup n wgs) := by
  intro Z v d ρ M σ H Q Q' r rp hw q
  cases d with
  | tup ds =>
    cases rp with
    | tup hs rl => exact ⟨_, _, rfl, sqt_mono fz_sub hs, by rw [rl.len]; exact hw.1, h Z _ _ ρ M σ H _ _ r rl hw.2 q⟩
  | _ => exact hw.elim
theorem dg_tup {es : List Expr} {k : Nat} {n : Nat} (hc : X.calm = true) (h : DGs X es tgs wgs) (hn : (assignEach es X.env).length = n := by rfl) (hst : (assignEach es X.env).findIdx? (·.1) = none := by rfl) : DG X (.Tuple es k pos) (gTup X.K n tgs) (wgTup n wgs) := ⟨pg_tup hc h.pe hn hst, sim_gtup h.sm⟩
/-- o[i] = v of a list of the store -/
def setD (o i v : D) (M : Mp) (Q : Mp → Prop) : Prop := match o, i with
  | .tok a, .int n => ∃ ds j, M a = some (.lst ds) ∧ ixN ds.length n = some j ∧ Q (setM M a (.lst (ds.set j v)))
  | _, _ => False
def wgSub (wo wi : WE) : WG := fun d ρ M Q => wo ρ M fun o M1 => wi ρ M1 fun i M2 => setD o i d M2 fun M3 => Q ρ M3
theorem dg_sub {o i : Expr} {to ti : TE} {wo wi : WE} (ho : DE X o to wo) (hi : DE X i ti wi) (ha : ∀ v, assign (.Subscript o i pos) X.env v = (do
      let ov ← holding [v] (eval o X.env)
      let iv ← holding [v, ov] (eval i X.env)
      standAt pos
      holding [v, ov, iv] (setItem ov iv v)
      release [v, ov, iv] []) := by intro _; rfl) : DG X (.Subscript o i pos) (gSub to ti rSetL) (wgSub wo wi) := by
  refine ⟨pg_sub ho.pe hi.pe set_list ha, fun Z v d ρ M σ H Q Q' r rp hw q => ?_⟩
  refine ho.sm Z ρ M σ H _ _ r hw fun x d1 H1 M1 g1 r1 q1 => ?_
  refine hi.sm Z ρ M1 σ H1 _ _ (r.go g1) q1 fun y d2 H2 M2 g2 r2 q2 => ?_
  unfold setD at q2
  split at q2
  · rename_i a n
    obtain ⟨ds, j, hm, hj, z⟩ := q2
    have r1' := r1.up g2.ex
    cases r1'
    cases r2
    obtain ⟨vs, e1, rl⟩ := g2.sat.cell a _ hm
    have g3 := Go.putL (p := a) g2.sat (.inr ⟨ds, hm⟩) (RepL.set ((rp.up g1.ex).up g2.ex) j rl)
    exact ⟨a, vs, n, j, rfl, rfl, e1, by rw [rl.len]; exact hj, q ρ _ σ _ (r.go ((g1.trans g2).trans g3)) ((g1.trans g2).trans g3) z⟩
  · exact q2.elim
def wAsg (w : WE) (g : WG) : WS := fun D ρ M => w ρ M fun d M1 => g d ρ M1 D.nx
theorem sim_asg {K : PySem.W.Frag} (he : SimE K te we) (hg : SimG K tg wg) : SimS K E (tAsg te tg) (wAsg we wg) := by
  intro Z D3 ρ M σ H D r h en
  refine he Z ρ M σ H _ _ r h fun v d H1 M1 g1 r1 q1 => ?_
  exact hg Z v d ρ M1 σ H1 _ _ (r.go g1) r1 q1 fun ρ2 M2 σ2 H2 s2 g2 z => en.nx ρ2 M2 σ2 H2 s2 (g1.trans g2) z
theorem ds_set (i : Nat) {x : Str} {pos' : Pos} (hN : X.N.Nodup) (he : DE X e te we) (hi : X.N[i]? = some x := by rfl) (hx : Loc X.env.scope x := by first | exact .inl rfl | exact .inr rfl) (hs : swapsWith e (some (.Name x pos')) pos.line X.env = pure false := by rfl)
    (hf : X.fn x = true ∨ X.env.scope.names.lookup x = some .local := by first | exact .inl rfl | exact .inr rfl) : DS X E (.Assign [.Name x pos'] e pos) (tAsg te (gName i)) (wAsg we (wgName i)) := ⟨ps_set hN hi hx he.pe hs hf, sim_asg he.sm (sim_gname i)⟩
theorem ds_asg {tgt : Expr} (he : DE X e te we) (hg : DG X tgt tg wg) (hs : swapsWithSole [tgt] e pos.line X.env = pure false := by rfl) (hw : swappedStores [tgt] e X.env = pure none := by rfl)
    (h1 : (assignEach [tgt] X.env).map (·.2) = [assign tgt X.env] := by rfl) : DS X E (.Assign [tgt] e pos) (tAsg te tg) (wAsg we wg) := ⟨ps_asg he.pe hg.pe hs hw h1, sim_asg he.sm hg.sm⟩
/-- a, b = x, y -/
def wPar (i j : Nat) (w : WA) : WS := fun D ρ M => w ρ M fun ds M1 => match ds with
  | [d, e] => D.nx ((ρ.set i (some d)).set j (some e)) M1
  | _ => False
theorem ds_par (i j : Nat) {x y : Str} {a b : Expr} {px py pt : Pos} {kt k2 pt2} (hc : X.calm = true) (hN : X.N.Nodup) (ha : DA X [a, b] tr wr) (hi : X.N[i]? = some x := by rfl) (hj : X.N[j]? = some y := by rfl) (hij : i ≠ j := by decide)
    (hx : X.env.scope.names.lookup x = some .local := by rfl) (hy : X.env.scope.names.lookup y = some .local := by rfl)
    (hw : swappedStores [.Tuple [.Name x px, .Name y py] kt pt] (.Tuple [a, b] k2 pt2) X.env = pure (some [x, y]) := by rfl)
    (hs : swapsWithSole [.Tuple [.Name x px, .Name y py] kt pt] (.Tuple [a, b] k2 pt2) pos.line X.env = pure false := by rfl) :
    DS X E (.Assign [.Tuple [.Name x px, .Name y py] kt pt] (.Tuple [a, b] k2 pt2) pos) (tPar i j tr) (wPar i j wr) := by
  refine ⟨ps_par hc hN hi hj hij hx hy ha.pe hw hs, fun Z D3 ρ M σ H D r h en => ?_⟩
  refine ha.sm Z ρ M σ H _ _ r h fun vs ds H1 M1 g1 r1 q1 => ?_
  cases r1 with
  | nil => exact q1.elim
  | cons r1 r2 =>
    cases r2 with
    | nil => exact q1.elim
    | cons r2 r3 =>
      cases r3 with
      | nil => exact ⟨_, _, rfl, en.nx _ M1 _ H1 ⟨g1.sat, (((r.go g1).env.set i r1).set j r2)⟩ g1 q1⟩
      | cons _ _ => exact q1.elim
def wPar3 (i j l : Nat) (w : WA) : WS := fun D ρ M => w ρ M fun ds M1 => match ds with
  | [d, e, f] => D.nx (((ρ.set i (some d)).set j (some e)).set l (some f)) M1
  | _ => False
end
end L3
namespace L3
open PySem L2
section
variable {X : Cx} {E : WX3} {e a b c : Expr} {es : List Expr} {t ta tb tc te : TE} {w wa wb wc we : WE} {pos : Pos} {k : Nat} {tr : TA} {wr : WA} {st : Stmt} {rest : List Stmt} {ts tu : TS} {ws wu : WS} {tA : TT} {wA : WT} {tg : TG} {wg : WG} {tgt : Expr}
/-! ### what is walked -/
/-- the iterator yields the data ds, one by one, as long as Ok holds of the store -/
def Walks3 (K : PySem.W.Frag) (Z : Hp) (H : Hp) (M : Mp) (J : It) (ds : List D) (Ok : Mp → Prop) : Prop := ∀ (Z2 H2 : Hp) (M2 : Mp), Sat K Z2 H2 M2 → Same (fz Z H M) (fz Z2 H2 M2) → Ok M2 →
  (∀ (i : Nat) (d : D), ds[i]? = some d → J.go i H2 ∧ ∀ x H3, J.yld i H2 x H3 → Go K Z2 H2 M2 H3 M2 ∧ Rep K (fz Z2 H3 M2) x d) ∧ ∀ i, ds.length ≤ i → J.stop i H2
abbrev WI := En → Mp → (List D → (Mp → Prop) → Mp → Prop) → Prop
def SimI (K : PySem.W.Frag) (t : TI) (w : WI) : Prop := ∀ (Z : Hp) (ρ : En) (M : Mp) (σ : L2.St) (H : Hp) (R : List D → (Mp → Prop) → Mp → Prop) (R' : It → Hp → Prop), R3 K Z ρ M σ H → w ρ M R → (∀ J ds Ok H' M', Go K Z H M H' M' → Walks3 K Z H' M' J ds Ok → R ds Ok M' → R' J H') → t σ H R'
structure DI (X : Cx) (tgt e : Expr) (t : TI) (w : WI) : Prop where
  pe : PI X tgt e t
  sm : SimI X.K t w
def AnyM : Mp → Prop := fun _ => True
/-- a list, a tuple -/
def iSeq (K : PySem.W.Frag) (tl : TE) : TI := fun σ H R => tl σ H fun x J => ∃ p, x = .ref p ∧ (((∃ xs, SqL K J p xs) ∧ R (Itl K p) J) ∨ ((∃ xs, SqT K J p xs) ∧ R (Itt K p) J))
theorem pi_seq {l : Expr} {tl : TE} (hl : PE X l tl) : PI X tgt l (iSeq X.K tl) := by
  constructor
  intro pins s σ H R I h
  refine thn (hl.run pins s σ H _ I h) fun v s1 ⟨x, H1, I1, r1, p, e, q1⟩ => ?_
  subst e
  cases r1
  rcases q1 with ⟨⟨xs, hq⟩, q⟩ | ⟨⟨xs, hq⟩, q⟩
  · obtain ⟨its, rv, pl, hz⟩ := I1.list hq
    refine wpAny_pyIter_list pl.isList ?_
    refine ⟨s1.heap.objs.size, [s1.heap.objs.size], _, _, H1, rfl, I1.kept (t' := s1.toks) fun b o e => Heap.get?_push_of_some _ e, turn_list p _, ⟨_, Heap.get?_push_size _ rfl, rfl, rfl⟩, fun b hb => ?_, q⟩
    obtain rfl : b = s1.heap.objs.size := by simpa using hb
    exact I1.fpOk (Nat.le_refl _) (I1.hok.fresh (Nat.le_refl _))
  · obtain ⟨its, rv, pl, hz⟩ := I1.tuple hq
    refine wpAny_pyIter_tuple (show s1.heap.IsTuple p its.toArray from pl) ?_
    refine ⟨s1.heap.objs.size, [s1.heap.objs.size], _, _, H1, rfl, I1.kept (t' := s1.toks) fun b o e => Heap.get?_push_of_some _ e, turn_tuple p _, ⟨_, Heap.get?_push_size _ rfl, rfl, rfl⟩, fun b hb => ?_, q⟩
    obtain rfl : b = s1.heap.objs.size := by simpa using hb
    exact I1.fpOk (Nat.le_refl _) (I1.hok.fresh (Nat.le_refl _))
def wiSeq (w : WE) : WI := fun ρ M R => w ρ M fun d M1 => match d with
  | .tup ds => R ds AnyM M1
  | .lst ds => R ds AnyM M1
  | .tok p => ∃ ds, M1 p = some (.lst ds) ∧ R ds (fun M2 => M2 p = some (.lst ds)) M1
  | _ => False
theorem walks_l {K : PySem.W.Frag} {Z H : Hp} {M : Mp} {p : Addr} {vs : List V} {ds : List D} (h : SqL K (fz Z H M) p vs) (r : RepL K (fz Z H M) vs ds) : Walks3 K Z H M (Itl K p) ds AnyM := by
  intro Z2 H2 M2 S ex _
  have hq : SqL K H2 p vs := (ex.trans fz_sub).seq h
  refine ⟨fun i d e => ?_, fun i hi => ⟨vs, hq, by rw [r.len]; exact hi⟩⟩
  obtain ⟨v, e1, rp⟩ := r.get e
  refine ⟨⟨vs, v, hq, e1⟩, fun x H3 ⟨e2, y⟩ => ?_⟩
  subst e2
  obtain rfl : x = v := Option.some.inj ((y vs hq).symm.trans e1)
  exact ⟨Go.refl S, rp.up ex⟩
theorem walks_t {K : PySem.W.Frag} {Z H : Hp} {M : Mp} {p : Addr} {vs : List V} {ds : List D} (h : SqT K (fz Z H M) p vs) (r : RepL K (fz Z H M) vs ds) : Walks3 K Z H M (Itt K p) ds AnyM := by
  intro Z2 H2 M2 S ex _
  have hq : SqT K H2 p vs := sqt_mono (ex.trans fz_sub) h
  refine ⟨fun i d e => ?_, fun i hi => ⟨vs, hq, by rw [r.len]; exact hi⟩⟩
  obtain ⟨v, e1, rp⟩ := r.get e
  refine ⟨⟨vs, v, hq, e1⟩, fun x H3 ⟨e2, y⟩ => ?_⟩
  subst e2
  obtain rfl : x = v := Option.some.inj ((y vs hq).symm.trans e1)
  exact ⟨Go.refl S, rp.up ex⟩
theorem walks_m {K : PySem.W.Frag} {Z H : Hp} {M : Mp} {p : Addr} {ds : List D} : Walks3 K Z H M (Itl K p) ds (fun M2 => M2 p = some (.lst ds)) := by
  intro Z2 H2 M2 S ex ok
  obtain ⟨vs, e0, r⟩ := S.cell p _ ok
  have hq : SqL K H2 p vs := .inl (.inl e0)
  refine ⟨fun i d e => ?_, fun i hi => ⟨vs, hq, by rw [r.len]; exact hi⟩⟩
  obtain ⟨v, e1, rp⟩ := r.get e
  refine ⟨⟨vs, v, hq, e1⟩, fun x H3 ⟨e2, y⟩ => ?_⟩
  subst e2
  have e3 := y vs hq
  obtain rfl : x = v := Option.some.inj (e3.symm.trans e1)
  exact ⟨Go.refl S, rp⟩
theorem di_seq (h : DE X e te we) : DI X tgt e (iSeq X.K te) (wiSeq we) := by
  refine ⟨pi_seq h.pe, fun Z ρ M σ H R R' s hw q => ?_⟩
  refine h.sm Z ρ M σ H _ _ s hw fun x d H1 M1 g1 r1 q1 => ?_
  cases d with
  | tup ds =>
    cases r1 with
    | tup hs rl => exact ⟨_, rfl, .inr ⟨⟨_, sqt_mono fz_sub hs⟩, q _ _ _ H1 M1 g1 (walks_t hs rl) q1⟩⟩
  | lst ds =>
    cases r1 with
    | lst hs rl => exact ⟨_, rfl, .inl ⟨⟨_, fz_sub.seq hs⟩, q _ _ _ H1 M1 g1 (walks_l hs rl) q1⟩⟩
  | tok p =>
    cases r1
    obtain ⟨ds, hm, z⟩ := q1
    obtain ⟨vs, e1, rl⟩ := g1.sat.cell p _ hm
    exact ⟨_, rfl, .inl ⟨⟨vs, .inl (.inl e1)⟩, q _ _ _ H1 M1 g1 walks_m z⟩⟩
  | _ => exact q1.elim
/-- range(n), range(a, b) -/
def intsD (lo : Int) (n : Nat) : List D := (List.range n).map fun (i : Nat) => D.int (lo + (i : Int))
theorem walks_r {K : PySem.W.Frag} {Z H : Hp} {M : Mp} (lo : Int) (n : Nat) : Walks3 K Z H M (Itr lo n) (intsD lo n) AnyM := by
  intro Z2 H2 M2 S ex _
  refine ⟨fun i d e => ?_, fun i hi => ?_⟩
  · have hi : i < n := by
      have z := (List.getElem?_eq_some_iff.mp e).1
      unfold intsD at z
      rw [List.length_map, List.length_range] at z
      exact z
    have ed : d = .int (lo + (i : Int)) := by
      unfold intsD at e
      rw [List.getElem?_map, List.getElem?_range hi] at e
      exact (Option.some.inj e).symm
    subst ed
    refine ⟨hi, fun x H3 ⟨e1, e2⟩ => ?_⟩
    subst e1
    subst e2
    exact ⟨Go.refl S, .int _⟩
  · unfold intsD at hi
    rw [List.length_map, List.length_range] at hi
    exact hi
def wiRange1 (w : WA) : WI := fun ρ M R => w ρ M fun ds M1 => match ds with
  | [.int j] => j < 2 ^ 62 ∧ -(2 ^ 62) ≤ j ∧ R (intsD 0 j.toNat) AnyM M1
  | _ => False
theorem di_range1 {p : Pos} (hm : X.mg "range" = none) (ha : DA X [a] tr wr) (hg : Gl X "range" := by rfl) (hs : starEach [a] X.env = [(false, eval a X.env)] := by rfl) : DI X tgt (.Call (.Name "range" p) [a] [] pos) (iRng1 tr) (wiRange1 wr) := by
  refine ⟨pi_range1 hg hm ha.pe hs, fun Z ρ M σ H R R' s hw q => ?_⟩
  refine ha.sm Z ρ M σ H _ _ s hw fun xs ds H1 M1 g1 r1 q1 => ?_
  unfold wiRange1 at hw
  split at q1
  · cases r1 with
    | cons r1 r2 =>
      cases r1
      cases r2
      exact ⟨_, rfl, q1.2.1, q1.1, q _ _ _ H1 M1 g1 (walks_r _ _) q1.2.2⟩
  · exact q1.elim
/-- a text, sign by sign -/
def signs (x : Str) : List D := x.cps.toList.map fun c => D.str ⟨#[c]⟩
def wiStr (w : WE) : WI := fun ρ M R => w ρ M fun d M1 => match d with
  | .str x => R (signs x) AnyM M1
  | _ => False
theorem walks_s {K : PySem.W.Frag} {Z H : Hp} {M : Mp} (x : Str) : Walks3 K Z H M (Its x) (signs x) AnyM := by
  intro Z2 H2 M2 S ex _
  refine ⟨fun i d e => ?_, fun i hi => ?_⟩
  · unfold signs at e
    rw [List.getElem?_map] at e
    cases q : x.cps.toList[i]? with
    | none =>
      rw [q] at e
      cases e
    | some c =>
      rw [q] at e
      obtain rfl : D.str ⟨#[c]⟩ = d := Option.some.inj e
      have hi : i < x.cps.size := by
        have z := (List.getElem?_eq_some_iff.mp q).1
        rw [Array.length_toList] at z
        exact z
      refine ⟨hi, fun y H3 ⟨e1, c', hc, e2⟩ => ?_⟩
      subst e1
      subst e2
      have e3 : x.cps[i]? = some c := by
        rw [← Array.getElem?_toList]
        exact q
      rw [e3] at hc
      cases hc
      exact ⟨Go.refl S, .str _⟩
  · unfold signs at hi
    rw [List.length_map, Array.length_toList] at hi
    exact hi
theorem di_str (h : DE X e te we) : DI X tgt e (iStr te) (wiStr we) := by
  refine ⟨pi_str h.pe, fun Z ρ M σ H R R' s hw q => ?_⟩
  refine h.sm Z ρ M σ H _ _ s hw fun x d H1 M1 g1 r1 q1 => ?_
  cases d with
  | str y =>
    cases r1
    exact ⟨y, rfl, q _ _ _ H1 M1 g1 (walks_s y) q1⟩
  | _ => exact q1.elim
/-! ### for -/
def wLoop (g : WG) (wb : WS) (Ok : Mp → Prop) (D3 : Ends3) : List D → En → Mp → Prop
  | [], ρ, M => Ok M ∧ D3.nx ρ M
  | d :: ds, ρ, M => Ok M ∧ g d ρ M fun ρ1 M1 => wb { D3 with nx := wLoop g wb Ok D3 ds, ct := wLoop g wb Ok D3 ds, bk := D3.nx } ρ1 M1
def wFor (wi : WI) (g : WG) (wb : WS) : WS := fun D3 ρ M => wi ρ M fun ds Ok M1 => wLoop g wb Ok D3 ds ρ M1
theorem sim_for {ti : TI} {wi : WI} (K : PySem.W.Frag) (hi : SimI K ti wi) (hg : SimG K tg wg) (hb : SimS K E ts ws) : SimS K E (tFor ti tg ts) (wFor wi wg ws) := by
  intro Z D3 ρ M σ H D r h en
  refine hi Z ρ M σ H _ _ r h fun J ds Ok H1 M1 g1 wk q1 => ?_
  refine ⟨fun i m σ' H' => m + i = ds.length ∧ ∃ ρ' M', R3 K Z ρ' M' σ' H' ∧ Go K Z H1 M1 H' M' ∧ wLoop wg ws Ok D3 (ds.drop i) ρ' M', ⟨ds.length, rfl, ρ, M1, r.go g1, Go.refl g1.sat, q1⟩, fun i m σ' H' ⟨em, ρ', M', r', g', l⟩ => ?_⟩
  by_cases hlt : i < ds.length
  · have e : ds.drop i = ds[i] :: ds.drop (i + 1) := List.drop_eq_getElem_cons hlt
    rw [e] at l
    obtain ⟨ok, l⟩ := l
    obtain ⟨go, yl⟩ := (wk Z H' M' g'.sat g'.ex ok).1 i ds[i] (List.getElem?_eq_getElem hlt)
    refine .inr ⟨go, fun σ2 H2 => ∃ ρ2 M2, R3 K Z ρ2 M2 σ2 H2 ∧ Go K Z H1 M1 H2 M2 ∧ wLoop wg ws Ok D3 (ds.drop (i + 1)) ρ2 M2, fun σ2 H2 ⟨ρ2, M2, r2, g2, l2⟩ => ⟨m - 1, by omega, by omega, ρ2, M2, r2, g2, l2⟩, fun x H3 hy => ?_⟩
    obtain ⟨g3, rp⟩ := yl x H3 hy
    refine hg Z x _ ρ' M' σ' H3 _ _ (r'.go g3) rp l fun ρ4 M4 σ4 H4 r4 g4 z => ?_
    have g14 := (g'.trans g3).trans g4
    refine hb Z _ ρ4 M4 σ4 H4 _ r4 z ⟨fun ρ5 M5 σ5 H5 r5 g5 z5 => ⟨ρ5, M5, r5, g14.trans g5, z5⟩, fun v d H5 M5 g5 rp5 z5 => en.rt v d H5 M5 ((g1.trans g14).trans g5) rp5 z5,
      fun ρ5 M5 σ5 H5 r5 g5 z5 => en.nx ρ5 M5 σ5 H5 r5 ((g1.trans g14).trans g5) z5, fun ρ5 M5 σ5 H5 r5 g5 z5 => ⟨ρ5, M5, r5, g14.trans g5, z5⟩, fun x C dx vs fs ρ5 σ5 H5 M5 ca5 r5 g5 e5 l5 rf5 z5 => en.xr x C dx vs fs ρ5 σ5 H5 M5 ca5 r5 ((g1.trans g14).trans g5) e5 l5 rf5 z5⟩
  · have e : ds.drop i = [] := List.drop_eq_nil_of_le (by omega)
    rw [e] at l
    exact .inl ⟨(wk Z H' M' g'.sat g'.ex l.1).2 i (by omega), en.nx ρ' M' σ' H' r' (g1.trans g') l.2⟩
theorem ds_for {ti : TI} {wi : WI} {body : List Stmt} (hp : PassesOwn (model X.prog X.w) X.A X.env X.xe) (hc : X.calm = true) (hi : DI X tgt e ti wi) (hg : DG X tgt tg wg) (hb : DSs X E body ts ws) (hs : ∀ x, foldedSetIterable e X.env x = pure x := by intro _; rfl) :
    DS X E (.For tgt e body [] pos) (tFor ti tg ts) (wFor wi wg ws) := ⟨ps_for hp hc hi.pe hg.pe hb.pe hs, sim_for X.K hi.sm hg.sm hb.sm⟩
/-! ### while -/
end
end L3
namespace L3
open PySem L2
section
variable {X : Cx} {E : WX3} {e a b c elt iter tgt : Expr} {es ifs : List Expr} {t ta tb tc te : TE} {w wa wb wc we : WE} {pos : Pos} {k : Nat} {tr : TA} {wr : WA} {tt : TT} {wt : WT} {tg : TG} {wg : WG} {ti : TI} {wi : WI}
/-! ### comprehensions -/
def wipeE (ρ : En) : List Nat → En
  | [] => ρ
  | v :: vs => (wipeE ρ vs).set v none
theorem wipe_rel {K : PySem.W.Frag} {H : Hp} {σ : L2.St} {ρ : En} (r : RelS K H σ ρ) : ∀ vs : List Nat, RelS K H (wipe σ vs) (wipeE ρ vs)
  | [] => r
  | v :: vs => by
    have ih := wipe_rel r vs
    refine ⟨by show ((wipe σ vs).set v none).length = ((wipeE ρ vs).set v none).length; rw [List.length_set, List.length_set]; exact ih.1, fun i d q => ?_⟩
    have q' : ((wipeE ρ vs).set v none)[i]? = some (some d) := q
    by_cases hi : v = i
    · subst hi
      rw [List.getElem?_set_self'] at q'
      cases z : (wipeE ρ vs)[v]? with
      | none =>
        rw [z] at q'
        cases q'
      | some o =>
        rw [z] at q'
        cases q'
    · rw [List.getElem?_set_ne hi] at q'
      obtain ⟨u, h1, h2⟩ := ih.2 i d q'
      exact ⟨u, by show ((wipe σ vs).set v none)[i]? = _; rw [List.getElem?_set_ne hi]; exact h1, h2⟩
theorem wipe_set {σ : L2.St} {j : Nat} {o : Option V} : ∀ {vs : List Nat}, j ∈ vs → wipe (σ.set j o) vs = wipe σ vs
  | v :: vs, h => by
    show (wipe (σ.set j o) vs).set v none = (wipe σ vs).set v none
    by_cases hm : j ∈ vs
    · rw [wipe_set hm]
    · have hj : j = v := (List.mem_cons.mp h).resolve_right hm
      subst hj
      have cm : ∀ (us : List Nat), wipe (σ.set j o) us = wipe σ us ∨ wipe (σ.set j o) us = (wipe σ us).set j o := fun us => by
        induction us with
        | nil => exact .inr rfl
        | cons u us ih =>
          rcases ih with h1 | h1
          · left
            show (wipe (σ.set j o) us).set u none = (wipe σ us).set u none
            rw [h1]
          · by_cases hu : u = j
            · subst hu
              left
              show (wipe (σ.set u o) us).set u none = (wipe σ us).set u none
              rw [h1, List.set_set]
            · right
              show (wipe (σ.set j o) us).set u none = ((wipe σ us).set u none).set j o
              rw [h1, List.set_comm _ _ (Ne.symm hu)]
      rcases cm vs with h1 | h1
      · rw [h1]
      · rw [h1, List.set_set]
/-- the target stores into the block's own slots alone -/
def KeepG (vs : List Nat) (tg : TG) : Prop := ∀ (v : V) (σ0 σ : L2.St) (H : Hp) (Q : L2.St → Hp → Prop), wipe σ vs = σ0 → tg v σ H Q → tg v σ H fun σ2 H2 => wipe σ2 vs = σ0 ∧ Q σ2 H2
theorem keep_name {vs : List Nat} {j : Nat} (h : j ∈ vs := by decide) : KeepG vs (gName j) := fun v σ0 σ H Q e q => ⟨by rw [wipe_set h]; exact e, q⟩
structure DTs (X : Cx) (ifs : List Expr) (t : TT) (w : WT) : Prop where
  pe : PTs X ifs t
  sm : SimT X.K t w
def wYes : WT := fun _ M Q => Q true M
theorem dts_nil : DTs X [] tYes wYes := ⟨pts_nil, fun Z ρ M σ H Q Q' s h q => q true H M s.refl h⟩
theorem dts_one (h : DT X e tt wt) : DTs X [e] tt wt := ⟨pts_one h.pe, h.sm⟩
def wLcL (g : WG) (wt : WT) (we : WE) (Ok : Mp → Prop) (ρ : En) : List D → List D → Mp → KD → Prop
  | [], acc, M, Q => Ok M ∧ Q (.lst acc) M
  | d :: ds, acc, M, Q => Ok M ∧ acc.length < sizeLine ∧ g d ρ M fun ρ1 M1 => wt ρ1 M1 fun b M2 => if b = true then we ρ1 M2 fun y M3 => wLcL g wt we Ok ρ ds (acc ++ [y]) M3 Q else wLcL g wt we Ok ρ ds acc M2 Q
def wLc (wi : WI) (g : WG) (wt : WT) (we : WE) (vs : List Nat) : WE := fun ρ M Q => wi ρ M fun ds Ok M1 => wLcL g wt we Ok (wipeE ρ vs) ds [] M1 Q
theorem sim_lc {K : PySem.W.Frag} {vs : List Nat} (hi : SimI K ti wi) (hg : SimG K tg wg) (ht : SimT K tt wt) (he : SimE K te we) (kp : KeepG vs tg) : SimE K (tLc ti tg tt te vs) (wLc wi wg wt we vs) := by
  intro Z ρ M σ H Q Q' r h q
  refine hi Z ρ M σ H _ _ r h fun J ds Ok H1 M1 g1 wk q1 => ?_
  intro D hD
  have m1 := g1.sat.free hD
  have z1 := g1.sat.freeZ hD
  have f1 : fz Z H1 M1 D = none := by
    rw [fz_none m1 z1]
    exact hD
  have s0 := Sat.swap (Z' := upd Z D (.lst [])) (H' := upd H1 D (.lst [])) g1.sat m1 f1 (fun b hb => upd_ne hb) (fun b hb => upd_ne hb) (fun o e => by rw [upd_same] at e ⊢; exact e)
  refine ⟨fun i m H' => m + i = ds.length ∧ ∃ (acc : List L3.D) (va : List V) (M' : Mp), Sat K (upd Z D (.lst va)) H' M' ∧ Same (fz Z H1 M1) (fz (upd Z D (.lst va)) H' M') ∧ RepL K (fz (upd Z D (.lst va)) H' M') va acc ∧ wLcL wg wt we Ok (wipeE ρ vs) (ds.drop i) acc M' Q,
    ⟨ds.length, rfl, [], [], M1, s0.1, s0.2, .nil, q1⟩, fun i m H' ⟨em, acc, va, M', S, ex, ra, l⟩ => ?_⟩
  have zd : upd Z D (.lst va) D = some (.lst va) := upd_same
  by_cases hlt : i < ds.length
  · have e : ds.drop i = ds[i] :: ds.drop (i + 1) := List.drop_eq_getElem_cons hlt
    rw [e] at l
    obtain ⟨ok, hacc, l⟩ := l
    obtain ⟨go, yl⟩ := (wk _ H' M' S ex ok).1 i ds[i] (List.getElem?_eq_getElem hlt)
    refine .inr ⟨go, fun H2 => ∃ (acc : List L3.D) (va : List V) (M' : Mp), Sat K (upd Z D (.lst va)) H2 M' ∧ Same (fz Z H1 M1) (fz (upd Z D (.lst va)) H2 M') ∧ RepL K (fz (upd Z D (.lst va)) H2 M') va acc ∧ wLcL wg wt we Ok (wipeE ρ vs) (ds.drop (i + 1)) acc M' Q,
      fun H2 z => ⟨m - 1, by omega, by omega, z⟩, fun x H3 hy => ?_⟩
    obtain ⟨g3, rp⟩ := yl x H3 hy
    have r3 : R3 K (upd Z D (.lst va)) (wipeE ρ vs) M' (wipe σ vs) H3 := ⟨g3.sat, (wipe_rel (r.env.up g1.ex) vs).up (ex.trans g3.ex)⟩
    have ww : wipe (wipe σ vs) vs = wipe σ vs := by
      have idem : ∀ us : List Nat, (∀ u ∈ us, u ∈ vs) → wipe (wipe σ us) vs = wipe σ vs := fun us => by
        induction us with
        | nil => intro _; rfl
        | cons u us ih =>
          intro hu
          show wipe ((wipe σ us).set u none) vs = _
          rw [wipe_set (hu u List.mem_cons_self)]
          exact ih fun y hy => hu y (List.mem_cons_of_mem _ hy)
      exact idem vs fun u hu => hu
    refine kp x _ _ H3 _ ww ?_
    refine hg _ x _ _ M' _ H3 _ _ r3 rp l fun ρ4 M4 σ4 H4 r4 g4 z => ?_
    refine ht _ ρ4 M4 σ4 H4 _ _ r4 z fun b H5 M5 g5 z5 => ?_
    have g35 := (g3.trans g4).trans g5
    cases b with
    | true =>
      rw [if_pos rfl] at z5 ⊢
      refine he _ ρ4 M5 σ4 H5 _ _ (r4.go g5) z5 fun y d H6 M6 g6 r6 z6 => ?_
      have g36 := g35.trans g6
      have h6 := g36.sat.zed D _ zd
      refine ⟨va, h6.1, by rw [ra.len]; exact hacc, ?_⟩
      have s6 := Sat.swap (Z' := upd Z D (.lst (va ++ [y]))) (H' := upd H6 D (.lst (va ++ [y]))) g36.sat h6.2 (fz_hid zd) (fun b hb => upd_ne hb) (fun b hb => by rw [upd_ne hb, upd_ne hb]) (fun o e => by rw [upd_same] at e ⊢; exact e)
      exact ⟨acc ++ [d], va ++ [y], M6, s6.1, (ex.trans g36.ex).trans s6.2, ((ra.up g36.ex).up s6.2).app (.cons (r6.up s6.2) .nil), z6⟩
    | false =>
      rw [if_neg Bool.false_ne_true] at z5 ⊢
      exact ⟨acc, va, M5, g35.sat, ex.trans g35.ex, ra.up g35.ex, z5⟩
  · have e : ds.drop i = [] := List.drop_eq_nil_of_le (by omega)
    rw [e] at l
    have hd := S.zed D _ zd
    have s2 := Sat.swap (Z' := Z) (H' := H') S hd.2 (fz_hid zd) (fun b hb => rfl) (fun b hb => by rw [upd_ne hb]) (fun o e => by rw [z1] at e; cases e)
    refine .inl ⟨(wk _ H' M' S ex l.1).2 i (by omega), ?_⟩
    exact q _ _ H' M' ⟨s2.1, (g1.ex.trans ex).trans s2.2⟩ (.lst (.inl (.inl (fz_to hd.2 z1 hd.1))) (ra.up s2.2)) l.2
theorem de_lc0 {scope : Scope} {own : List (Str × Nat)} (hc : X.calm = true) (hN : X.N.Nodup) (hi : DI X tgt iter ti wi) (ok : BlkOk X.N X.env.scope scope own)
    (hg : ∀ (s : Shared) (H : Hp) (C : Addr) (cl : List (Str × Addr)) (fp : List Addr), DG (X.blk s H scope (compEnvC scope cl C X.env) fp) tgt tg wg) (ht : ∀ (s : Shared) (H : Hp) (C : Addr) (cl : List (Str × Addr)) (fp : List Addr), DTs (X.blk s H scope (compEnvC scope cl C X.env) fp) ifs tt wt)
    (he : ∀ (s : Shared) (H : Hp) (C : Addr) (cl : List (Str × Addr)) (fp : List Addr), DE (X.blk s H scope (compEnvC scope cl C X.env) fp) elt te we) (kp : KeepG (own.map (·.2)) tg) (hs : ∀ x, foldedSetIterable iter X.env x = pure x := by intro _; rfl) :
    DE X (.ListComp elt [⟨tgt, iter, ifs, 0⟩] scope pos) (tLc ti tg tt te (own.map (·.2))) (wLc wi wg wt we (own.map (·.2))) :=
  ⟨pe_lc hc hN hi.pe ok (fun s H C cl fp => (hg s H C cl fp).pe) (fun s H C cl fp => (ht s H C cl fp).pe) (fun s H C cl fp => (he s H C cl fp).pe) hs, sim_lc hi.sm (hg X.s_0 X.H_0 0 [] []).sm (ht X.s_0 X.H_0 0 [] []).sm (he X.s_0 X.H_0 0 [] []).sm kp⟩
/-- name = [..] on one line -/
theorem ds_setLc0 (i : Nat) {y : Str} {py : Pos} {scope : Scope} {own : List (Str × Nat)} {spos : Pos} (hc : X.calm = true) (hN : X.N.Nodup)
    (hi : DI X tgt iter ti wi) (ok : BlkOk X.N X.env.scope scope own)
    (hg : ∀ (s : Shared) (H : Hp) (C : Addr) (cl : List (Str × Addr)) (fp : List Addr), DG (X.blk s H scope (compEnvC scope cl C X.env) fp) tgt tg wg) (ht : ∀ (s : Shared) (H : Hp) (C : Addr) (cl : List (Str × Addr)) (fp : List Addr), DTs (X.blk s H scope (compEnvC scope cl C X.env) fp) ifs tt wt)
    (he : ∀ (s : Shared) (H : Hp) (C : Addr) (cl : List (Str × Addr)) (fp : List Addr), DE (X.blk s H scope (compEnvC scope cl C X.env) fp) elt te we) (kp : KeepG (own.map (·.2)) tg)
    (hsw : swapsWith (.ListComp elt [⟨tgt, iter, ifs, 0⟩] scope pos) (some (.Name y py)) spos.line X.env = pure true) (hy : X.N[i]? = some y := by rfl) (hyl : X.env.scope.names.lookup y = some .local := by rfl) (hs : ∀ x, foldedSetIterable iter X.env x = pure x := by intro _; rfl) :
    DS X E (.Assign [.Name y py] (.ListComp elt [⟨tgt, iter, ifs, 0⟩] scope pos) spos) (tAsg (tLc ti tg tt te (own.map (·.2))) (gName i)) (wAsg (wLc wi wg wt we (own.map (·.2))) (wgName i)) :=
  ⟨ps_setLc hc hN hy hyl hsw hi.pe ok (fun s H C cl fp => (hg s H C cl fp).pe) (fun s H C cl fp => (ht s H C cl fp).pe) (fun s H C cl fp => (he s H C cl fp).pe) hs, sim_asg (sim_lc hi.sm (hg X.s_0 X.H_0 0 [] []).sm (ht X.s_0 X.H_0 0 [] []).sm (he X.s_0 X.H_0 0 [] []).sm kp) (sim_gname i)⟩
section
variable {scope : Scope} {own : List (Str × Nat)} {gF : Shared → Hp → Addr → List (Str × Addr) → List Addr → TG} {tF : Shared → Hp → Addr → List (Str × Addr) → List Addr → TT} {eF : Shared → Hp → Addr → List (Str × Addr) → List Addr → TE}
theorem de_lc (hc : X.calm = true) (hN : X.N.Nodup) (hi : DI X tgt iter ti wi) (ok : BlkOk X.N X.env.scope scope own)
    (hg : ∀ (s : Shared) (H : Hp) (C : Addr) (cl : List (Str × Addr)) (fp : List Addr), DG (X.blk s H scope (compEnvC scope cl C X.env) fp) tgt (gF s H C cl fp) wg) (ht : ∀ (s : Shared) (H : Hp) (C : Addr) (cl : List (Str × Addr)) (fp : List Addr), DTs (X.blk s H scope (compEnvC scope cl C X.env) fp) ifs (tF s H C cl fp) wt)
    (he : ∀ (s : Shared) (H : Hp) (C : Addr) (cl : List (Str × Addr)) (fp : List Addr), DE (X.blk s H scope (compEnvC scope cl C X.env) fp) elt (eF s H C cl fp) we) (kp : KeepG (own.map (·.2)) (gF X.s_0 X.H_0 0 [] [])) (hs : ∀ x, foldedSetIterable iter X.env x = pure x := by intro _; rfl)
    (qg : ∀ s H C cl fp, gF s H C cl fp = gF X.s_0 X.H_0 0 [] [] := by intros; rfl) (qt : ∀ s H C cl fp, tF s H C cl fp = tF X.s_0 X.H_0 0 [] [] := by intros; rfl) (qe : ∀ s H C cl fp, eF s H C cl fp = eF X.s_0 X.H_0 0 [] [] := by intros; rfl) :
    DE X (.ListComp elt [⟨tgt, iter, ifs, 0⟩] scope pos) (tLc ti (gF X.s_0 X.H_0 0 [] []) (tF X.s_0 X.H_0 0 [] []) (eF X.s_0 X.H_0 0 [] []) (own.map (·.2))) (wLc wi wg wt we (own.map (·.2))) :=
  de_lc0 hc hN hi ok (fun s H C cl fp => qg s H C cl fp ▸ hg s H C cl fp) (fun s H C cl fp => qt s H C cl fp ▸ ht s H C cl fp) (fun s H C cl fp => qe s H C cl fp ▸ he s H C cl fp) kp hs
theorem ds_setLc (i : Nat) {y : Str} {py : Pos} {spos : Pos} (hc : X.calm = true) (hN : X.N.Nodup) (hi : DI X tgt iter ti wi) (ok : BlkOk X.N X.env.scope scope own)
    (hg : ∀ (s : Shared) (H : Hp) (C : Addr) (cl : List (Str × Addr)) (fp : List Addr), DG (X.blk s H scope (compEnvC scope cl C X.env) fp) tgt (gF s H C cl fp) wg) (ht : ∀ (s : Shared) (H : Hp) (C : Addr) (cl : List (Str × Addr)) (fp : List Addr), DTs (X.blk s H scope (compEnvC scope cl C X.env) fp) ifs (tF s H C cl fp) wt)
    (he : ∀ (s : Shared) (H : Hp) (C : Addr) (cl : List (Str × Addr)) (fp : List Addr), DE (X.blk s H scope (compEnvC scope cl C X.env) fp) elt (eF s H C cl fp) we) (kp : KeepG (own.map (·.2)) (gF X.s_0 X.H_0 0 [] []))
    (hsw : swapsWith (.ListComp elt [⟨tgt, iter, ifs, 0⟩] scope pos) (some (.Name y py)) spos.line X.env = pure true) (hy : X.N[i]? = some y := by rfl) (hyl : X.env.scope.names.lookup y = some .local := by rfl) (hs : ∀ x, foldedSetIterable iter X.env x = pure x := by intro _; rfl)
    (qg : ∀ s H C cl fp, gF s H C cl fp = gF X.s_0 X.H_0 0 [] [] := by intros; rfl) (qt : ∀ s H C cl fp, tF s H C cl fp = tF X.s_0 X.H_0 0 [] [] := by intros; rfl) (qe : ∀ s H C cl fp, eF s H C cl fp = eF X.s_0 X.H_0 0 [] [] := by intros; rfl) :
    DS X E (.Assign [.Name y py] (.ListComp elt [⟨tgt, iter, ifs, 0⟩] scope pos) spos) (tAsg (tLc ti (gF X.s_0 X.H_0 0 [] []) (tF X.s_0 X.H_0 0 [] []) (eF X.s_0 X.H_0 0 [] []) (own.map (·.2))) (gName i)) (wAsg (wLc wi wg wt we (own.map (·.2))) (wgName i)) :=
  ds_setLc0 i hc hN hi ok (fun s H C cl fp => qg s H C cl fp ▸ hg s H C cl fp) (fun s H C cl fp => qt s H C cl fp ▸ ht s H C cl fp) (fun s H C cl fp => qe s H C cl fp ▸ he s H C cl fp) kp hsw hy hyl hs
end
/-! ### built-in functions -/
abbrev FC := List D → Mp → KD → Prop
def SimC (K : PySem.W.Frag) (r : List V → Hp → VK → Prop) (f : FC) : Prop := ∀ (Z : Hp) (xs : List V) (ds : List D) (H : Hp) (M : Mp) (Q : KD) (Q' : VK), Sat K Z H M → RepL K (fz Z H M) xs ds → f ds M Q → (∀ v d' H' M', Go K Z H M H' M' → Rep K (fz Z H' M') v d' → Q d' M' → Q' v H') → r xs H Q'
def wCB (f : FC) (r : WA) : WE := fun ρ M Q => r ρ M fun ds M1 => f ds M1 Q
theorem sim_CB {K : PySem.W.Frag} {r : List V → Hp → VK → Prop} {f : FC} (ha : SimA K tr wr) (hs : SimC K r f) : SimE K (tCB r tr) (wCB f wr) := by
  intro Z ρ M σ H Q Q' s h q
  refine ha Z ρ M σ H _ _ s h fun xs ds H1 M1 g1 r1 q1 => ?_
  exact hs Z xs ds H1 M1 Q Q' g1.sat r1 q1 fun v d H2 M2 g2 r2 q2 => q v d H2 M2 (g1.trans g2) r2 q2
theorem de_callB {x : Str} {p : Pos} {id : String} {r : List V → Hp → VK → Prop} {f : FC} (hc : CallR X (.builtin id) r) (hs : SimC X.K r f) (hm : X.mg x = none) (hv : bootBuiltins x = some (.builtin id)) (ha : DA X (e :: es) tr wr) (hg : Gl X x := by rfl) (hn : x ≠ "__name__" := by decide) (hdb : (x == ("__debug__" : Str)) = false := by decide)
    (he : starEach (e :: es) X.env = (false, eval e X.env) :: starEach es X.env := by rfl) (hpl : (backTo pos (starEach es X.env)).any (·.1) = false := by rfl) : DE X (.Call (.Name x p) (e :: es) [] pos) (tCB r tr) (wCB f wr) := ⟨pe_callB hc hg hm hv ha.pe hn hdb he hpl, sim_CB ha.sm hs⟩
theorem de_callTy {x : Str} {p : Pos} {T : String} {r : List V → Hp → VK → Prop} {f : FC} (hc : CallR X (.type T) r) (hs : SimC X.K r f) (hm : X.mg x = none) (hv : bootBuiltins x = some (.type T)) (ha : DA X (e :: es) tr wr) (hg : Gl X x := by rfl) (hn : x ≠ "__name__" := by decide) (hdb : (x == ("__debug__" : Str)) = false := by decide)
    (he : starEach (e :: es) X.env = (false, eval e X.env) :: starEach es X.env := by rfl) (hpl : (backTo pos (starEach es X.env)).any (·.1) = false := by rfl) : DE X (.Call (.Name x p) (e :: es) [] pos) (tCB r tr) (wCB f wr) := ⟨pe_callTy hc hg hm hv ha.pe hn hdb he hpl, sim_CB ha.sm hs⟩
/-- repr -/
def fRepr : FC := fun ds M Q => match ds with
  | [d] => (∃ n, n ≤ 60 ∧ shw n (res M d)) ∧ cost (res M d) ≤ 16000000 ∧ Q (.str (shown (res M d))) M
  | _ => False
theorem sim_repr {K : PySem.W.Frag} : SimC K (fun xs H Q => ∃ (x : V) (d : D) (n : Nat), xs = [x] ∧ Rep K H x d ∧ shw n d ∧ n ≤ 60 ∧ cost d ≤ 16000000 ∧ Q (.str (shown d)) H) fRepr := by
  intro Z xs ds H M Q Q' S r f q
  unfold fRepr at f
  split at f
  · cases r with
    | cons r1 r2 =>
      cases r2
      obtain ⟨⟨n, hn, hs⟩, hc, z⟩ := f
      exact ⟨_, _, n, rfl, res_rep S r1, hs, hn, hc, q _ _ H M (Go.refl S) (.str _) z⟩
  · exact f.elim
/-- len -/
def fLen : FC := fun ds M Q => match ds with
  | [.str x] => x.length ≤ sizeLine ∧ Q (.int (x.length : Int)) M
  | [d] => ∃ es, seqD M d = some es ∧ Q (.int (es.length : Int)) M
  | _ => False
def rLenA (K : PySem.W.Frag) : List V → Hp → VK → Prop := fun xs H Q => (∃ p ys, xs = [.ref p] ∧ (SqL K H p ys ∨ SqT K H p ys) ∧ Q (.int ys.length) H) ∨ ∃ z, xs = [.str z] ∧ z.length ≤ sizeLine ∧ Q (.int z.length) H
theorem call_lenA : CallR X (.builtin "len") (rLenA X.K) := call_len_seq.or call_len_str
theorem sim_len {K : PySem.W.Frag} : SimC K (rLenA K) fLen := by
  intro Z xs ds H M Q Q' S r f q
  unfold fLen at f
  split at f
  · cases r with
    | cons r1 r2 =>
      cases r2
      cases r1
      exact .inr ⟨_, rfl, f.1, q _ _ H M (Go.refl S) (.int _) f.2⟩
  · cases r with
    | cons r1 r2 =>
      cases r2
      obtain ⟨es, hs, z⟩ := f
      obtain ⟨p, vs, rfl, hv, rl⟩ := seq_of S r1 hs
      refine .inl ⟨p, vs, rfl, hv, q _ _ H M (Go.refl S) ?_ z⟩
      rw [rl.len]
      exact .int _
  · exact f.elim
/-- int(x) of an int, a bool -/
def fInt : FC := fun ds M Q => match ds with
  | [.int i] => Q (.int i) M
  | [.bl b] => Q (.int (if b then 1 else 0)) M
  | _ => False
theorem sim_int {K : PySem.W.Frag} : SimC K (fun xs H Q => (∃ i, xs = [.int i] ∧ Q (.int i) H) ∨ ∃ k, xs = [.bl k] ∧ Q (.int (if k then 1 else 0)) H) fInt := by
  intro Z xs ds H M Q Q' S r f q
  unfold fInt at f
  split at f
  · cases r with
    | cons r1 r2 =>
      cases r2
      cases r1
      exact .inl ⟨_, rfl, q _ _ H M (Go.refl S) (.int _) f⟩
  · cases r with
    | cons r1 r2 =>
      cases r2
      cases r1
      exact .inr ⟨_, rfl, q _ _ H M (Go.refl S) (.int _) f⟩
  · exact f.elim
def fAbs : FC := fun ds M Q => match ds with
  | [.int i] => Q (.int (if i < 0 then -i else i)) M
  | _ => False
theorem sim_abs {K : PySem.W.Frag} : SimC K (fun xs H Q => ∃ i, xs = [.int i] ∧ Q (.int (if i < 0 then -i else i)) H) fAbs := by
  intro Z xs ds H M Q Q' S r f q
  unfold fAbs at f
  split at f
  · cases r with
    | cons r1 r2 =>
      cases r2
      cases r1
      exact ⟨_, rfl, q _ _ H M (Go.refl S) (.int _) f⟩
  · exact f.elim
def f2I (g : Int → Int → Int) : FC := fun ds M Q => match ds with
  | [.int i, .int j] => Q (.int (g i j)) M
  | _ => False
/-- tuple(x), list(x) of a list or a tuple -/
def fTuple : FC := fun ds M Q => match ds with
  | [d] => ∃ es, seqD M d = some es ∧ Q (.tup es) M
  | _ => False
theorem sim_tuple {K : PySem.W.Frag} : SimC K (fun xs H Q => ∃ p ys, xs = [.ref p] ∧ ((SqL K H p ys ∧ ∀ l, H l = none → Q (.ref l) (upd H l (.tup ys))) ∨ (SqT K H p ys ∧ Q (.ref p) H))) fTuple := by
  intro Z xs ds H M Q Q' S r f q
  unfold fTuple at f
  split at f
  · cases r with
    | cons r1 r2 =>
      cases r2
      obtain ⟨es, hs, z⟩ := f
      cases hd : ‹D› with
      | tup us =>
        subst hd
        obtain rfl : us = es := Option.some.inj hs
        cases r1 with
        | tup h1 rl => exact ⟨_, _, rfl, .inr ⟨sqt_mono fz_sub h1, q _ _ H M (Go.refl S) (.tup h1 rl) z⟩⟩
      | lst us =>
        subst hd
        obtain ⟨p, vs, rfl, hv, rl⟩ := lst_of S r1 ⟨0, .inr (by obtain rfl : us = es := Option.some.inj hs; rfl)⟩ hs
        refine ⟨p, vs, rfl, .inl ⟨hv, fun l hl => ?_⟩⟩
        obtain ⟨g, n⟩ := Go.laid (o := .tup vs) S hl
        exact q _ _ _ _ g (.tup (.inl (.inl n)) (rl.up g.ex)) z
      | tok p0 =>
        subst hd
        obtain ⟨p, vs, rfl, hv, rl⟩ := lst_of S r1 ⟨p0, .inl rfl⟩ hs
        refine ⟨p, vs, rfl, .inl ⟨hv, fun l hl => ?_⟩⟩
        obtain ⟨g, n⟩ := Go.laid (o := .tup vs) S hl
        exact q _ _ _ _ g (.tup (.inl (.inl n)) (rl.up g.ex)) z
      | non => subst hd; cases hs
      | bl _ => subst hd; cases hs
      | int _ => subst hd; cases hs
      | str _ => subst hd; cases hs
      | ty _ => subst hd; cases hs
      | exc _ _ _ _ _ => subst hd; cases hs
      | tpl us =>
        subst hd
        obtain rfl : us = es := Option.some.inj hs
        cases r1 with
        | tpl h1 h2 rl => exact ⟨_, _, rfl, .inr ⟨.inl (.inr ⟨_, fz_sub _ _ h1⟩), q _ _ H M (Go.refl S) (.tup (.inl (.inr ⟨_, h1⟩)) rl) z⟩⟩
      | dct _ _ => subst hd; cases hs
  · exact f.elim
def fBls (g : List Bool → Bool) : FC := fun ds M Q => match ds with
  | [d] => ∃ ns : List Bool, (∃ a, d = .tok a ∨ d = .lst (ns.map .bl)) ∧ seqD M d = some (ns.map .bl) ∧ Q (.bl (g ns)) M
  | _ => False
theorem sim_any {K : PySem.W.Frag} : SimC K (rAny K) (fBls fun bs => bs.any id) := by
  intro Z xs ds H M Q Q' S r f q
  unfold fBls at f
  split at f
  · cases r with
    | cons r1 r2 =>
      cases r2
      obtain ⟨ns, hd, hs, z⟩ := f
      obtain ⟨p, vs, rfl, hv, rl⟩ := lst_of S r1 hd hs
      obtain rfl := rl.bls
      exact ⟨p, ns, rfl, hv, q _ _ H M (Go.refl S) (.bl _) z⟩
  · exact f.elim
theorem sim_all {K : PySem.W.Frag} : SimC K (rAll K) (fBls fun bs => bs.all id) := by
  intro Z xs ds H M Q Q' S r f q
  unfold fBls at f
  split at f
  · cases r with
    | cons r1 r2 =>
      cases r2
      obtain ⟨ns, hd, hs, z⟩ := f
      obtain ⟨p, vs, rfl, hv, rl⟩ := lst_of S r1 hd hs
      obtain rfl := rl.bls
      exact ⟨p, ns, rfl, hv, q _ _ H M (Go.refl S) (.bl _) z⟩
  · exact f.elim
end
end L3
namespace L3
open PySem L2
/-! ### the law's own call -/
theorem law_g {P : Program} {w : World} {K : PySem.W.Frag} {mg mb : Str → Option Value} {k : Nat} {fa a : Addr} {fd : FuncData} {x : Str} {sp : Sp} {s1 : Shared} {vs : List Value} {ns : List Int}
    (KX : K.In s1.heap) (hns : s1.heap.Ns mainGlobals mg) (hb : s1.heap.Ns builtinsNs mb) (hbb : ∀ x : Str, x ≠ "__name__" → mb x = bootBuiltins x) (hlim : s1.heap.NoLimit) (hg : s1.gens = #[])
    (ha : s1.heap.get? a = some { cls := .type "list", data := .seq vs.toArray }) (hi : PyProof.Rows.IntsAre vs ns) (hl : ns.length ≤ sizeLine) (hr : Room k callerA)
    (F : ∀ base : Heap, K.In base → base.Ns mainGlobals mg → FnG P w K mg base k fa fd [x] sp) (hbind : ∀ (s : Shared) (u : Value), BindsTo s fd ⟨[u], []⟩ [(x, u)])
    (hsp : ∀ H : Hp, SqL K H a (ns.map V.int) → sp [.ref a] H (fun v _ => v = .bl true) fun _ _ _ => False) :
    codeAny (model P w) callerA (.call (.ref fa) ⟨[.ref a], []⟩) (fun r s' => r = .ok (.ret (.bool true)) ∧ OldK s1.heap s'.heap ∧ s'.os = s1.os ∧ PyProof.Rows.AllBare s'.gens) s1 := by
  have vals := vals_ints hi
  have hlen := hi.length
  have main : ∀ H : Hp, Only H → SqL K H a (ns.map V.int) → HOk P w H s1.heap → (∀ b, H b ≠ none → b = a) → (H a ≠ none → K.lookup a = none) →
      codeAny (model P w) callerA (.call (.ref fa) ⟨[.ref a], []⟩) (fun r s' => r = .ok (.ret (.bool true)) ∧ OldK s1.heap s'.heap ∧ s'.os = s1.os ∧ PyProof.Rows.AllBare s'.gens) s1 := by
    intro H only sq hok hA hK
    have eqa : ∀ {b : Addr} {u : HO}, H b = some u → b = a := fun {b u} q => hA b (by rw [q]; exact fun z => nomatch z)
    have free : ∀ {b : Addr} {o : Obj}, s1.heap.get? b = some o → o ≠ { cls := .type "list", data := .seq vs.toArray } → H b = none := fun {b o} e d => by
      cases q : H b with
      | none => rfl
      | some u =>
        have e' := eqa q
        subst e'
        rw [ha] at e
        exact absurd (Option.some.inj e).symm d
    have nsK : ∀ {b : Addr} {m : Str → Option Value}, s1.heap.Ns b m → (hidT s1.heap H).Ns b m := fun {b m} ⟨o, es, ep, e, d, r⟩ =>
      ⟨o, es, ep, hidT_get e (free e fun z => by rw [z] at d; exact nomatch d), d, r⟩
    have kin : K.In (hidT s1.heap H) := fun b o e => hidT_get (KX b o e) (by
      cases q : H b with
      | none => rfl
      | some u =>
        have e' := eqa q
        subst e'
        rw [hK (by rw [q]; exact fun z => nomatch z)] at e
        exact nomatch e)
    have md : Mod K mg (hidT s1.heap H) := ⟨kin, nsK hns, ⟨mb, nsK hb, hbb⟩, hlim.elim fun mc h => ⟨mc, nsK h.1, h.2⟩⟩
    have e0 : Env0 P w K mg (hidT s1.heap H) callerA [] s1 H := ⟨rfl, md, fun b o e => of_hidT e, Nat.le_of_eq (hidT_size _ _), trivial, fun b z => absurd z List.not_mem_nil, hok, .of_eq hg⟩
    refine codeAny_mono ((F _ kin (nsK hns)).run callerA [] s1 H ⟨[.ref a], []⟩ [.ref a] [.ref a] _ _ rfl hr e0 (hbind s1 (.ref a)) (.cons rfl .nil) (hsp H sq)) fun r s' h => ?_
    cases r with
    | error e =>
      obtain ⟨_, _, _, _, _, _, _, _, _, _, _, _, z⟩ := h
      exact z.elim
    | ok fl =>
      cases fl with
      | next => exact h.elim
      | brk => exact h.elim
      | cont => exact h.elim
      | ret u =>
        obtain ⟨v, H', os, bare, un, hok', rv, q⟩ := h
        subst q
        obtain rfl : u = Value.bool true := rv
        refine ⟨rfl, OldK.of_keep fun b o e => ?_, os, bare⟩
        cases q : H b with
        | none => exact un.keep b o e q List.not_mem_nil List.not_mem_nil
        | some u =>
          rcases only b with z | ⟨ob, xs, z⟩
          · rw [q] at z
            exact nomatch z
          · have e1 := (hok b _ z).1
            have e2 := (hok' b _ (un.frzs b ob _ z)).1
            rw [e] at e1
            rw [Option.some.inj e1]
            exact e2
  cases hk : K.lookup a with
  | some o =>
    have e := KX a o hk
    rw [ha] at e
    cases e
    exact main (fun _ => none) (fun _ => .inl rfl) (.inr ⟨_, vs.toArray, _, hk, rfl, rfl, rfl, by rw [List.size_toArray, hlen]; exact hl, by simpa using vals⟩) (fun _ _ z => nomatch z) (fun _ z => absurd rfl z) fun z => absurd rfl z
  | none =>
    refine main (fun b => if b = a then some (.frz { cls := .type "list", data := .seq vs.toArray } (.lst (ns.map V.int))) else none) (fun b => ?_) (.inl (.inr ⟨{ cls := .type "list", data := .seq vs.toArray }, if_pos rfl⟩)) (fun b u z => ?_) (fun b z => ?_) fun _ => hk
    · rcases Decidable.em (b = a) with e | e
      · exact .inr ⟨_, _, if_pos e⟩
      · exact .inl (if_neg e)
    · rcases Decidable.em (b = a) with e | e
      · have z' := (if_pos e).symm.trans z
        cases z'
        rw [e]
        exact ⟨ha, by rw [List.length_map]; exact hl, vs, _, vals, ha⟩
      · have z' := (if_neg e).symm.trans z
        cases z'
    · rcases Decidable.em (b = a) with e | e
      · exact e
      · exact absurd (if_neg e) z
theorem walk_g {l : PySem.W.OpenLaw} {n k : Nat} {q : Program} {loose : List Str} {XP : (Str → Option Value) → Heap → Prop} {YP : World → Heap → Prop} {d : DefRec} {K : Params → PySem.W.Frag} {sp : World → Sp} {x : Str}
    (hn : l.most = some n) (hn2 : n ≤ sizeLine) (hdf : d.params.defaults = []) (hr : Room k callerA) (hY : ∀ (w : World) (h : Heap), YP w h → (K w.params).In h)
    (F : ∀ (w : World) (mg : Str → Option Value) (fa : Addr) (h : Heap), (K w.params).In h → h.Ns mainGlobals mg → mg d.name = some (.ref fa) →
      ∃ fd : FuncData, (∀ (s : Shared) (u : Value), BindsTo s fd ⟨[u], []⟩ [(x, u)]) ∧ ∀ base : Heap, (K w.params).In base → base.Ns mainGlobals mg → FnG l.prog w (K w.params) mg base k fa fd [x] (sp w))
    (hsp : ∀ (w : World) (H : Hp) (a : Addr) (ns : List Int), ns.length ≤ n → SqL (K w.params) H a (ns.map V.int) → sp w [.ref a] H (fun v _ => v = .bl true) fun _ _ _ => False) :
    PySem.W.WalkO q loose XP YP l.row.toRowW d [] (fun f vs => PySem.call f vs) := by
  refine Att.attach_call hn hdf fun w s0 s1 mg mb fa o pm cd doc a vs ns G Y ho hd hcd hmg hobj hints hlen hg => ?_
  obtain ⟨fd, hb, hF⟩ := F w mg fa _ (hY w _ Y) G.T.g hmg
  exact law_g (hY w _ Y) G.T.g G.T.b G.T.builtins G.T.nolimit hg hobj hints (Nat.le_trans hlen hn2) hr hF hb fun H hS => hsp w H a ns hlen hS
/-! ### a def of the text with its contract -/
structure Has (P : Program) (w : World) (K : PySem.W.Frag) (mg : Str → Option Value) (base : Heap) (k : Nat) (x : Str) (st : Stmt) (ps : List Str) (F : Fs) : Prop where
  ex : ∃ (f : Addr) (fd : FuncData), FnG P w K mg base k f fd ps (lift K F) ∧ mg x = some (.ref f) ∧ Fun K x x st f fd ∧ Binds K fd ps []
section
variable {X : Cx} {E : WX3} {e a b c : Expr} {es : List Expr} {t ta tb tc te : TE} {w wa wb wc we : WE} {pos p : Pos} {k : Nat} {tr tk : TA} {wr wk : WA} {x : Str} {st : Stmt} {ps : List Str} {F : Fs} {kws : List Keyword}
theorem de_h (h : Has X.prog X.w X.K X.mg X.base k x st ps F) (hr : Room k X.A) (gd : X.A.guards = some []) (ha : DA X (e :: es) tr wr) (hg : Gl X x := by rfl) (hdb : (x == ("__debug__" : Str)) = false := by decide)
    (he : starEach (e :: es) X.env = (false, eval e X.env) :: starEach es X.env := by rfl) (hpl : (backTo pos (starEach es X.env)).any (·.1) = false := by rfl) : DE X (.Call (.Name x p) (e :: es) [] pos) (tCallG (lift X.K F) [] E0 tr) (wCall F wr) := by
  obtain ⟨f, fd, G, hm, Fn, hb⟩ := h.ex
  exact de_call G hr gd hm Fn.kp hb ha hg hdb he hpl
/-- how a call with keywords binds: shown by «fun _ _ _ _ _ _ us ws h1 h2 => match us, ws, h1, h2 with | [_], [_, _], _, _ => rfl» -/
def Kw (x : Str) (st : Stmt) (ps : List Str) (n : Nat) (ks : List Str) (idx : List Nat) : Prop := ∀ (kV doc pm : Value) (an : Option Addr) (cdv ct : Value) (us ws : List Value), us.length = n → ws.length = ks.length →
  bindArgs (PySem.W.fnOf x x (defArgs st) (defBody st) (defScope st) .none kV doc pm an cdv ct) ⟨us, ks.zip ws⟩ = pure (ps.zip (permU idx us ws))
theorem kb_of {K : PySem.W.Frag} {f : Addr} {fd : FuncData} {n : Nat} {ks : List Str} {idx : List Nat} (Fn : Fun K x x st f fd) (h : Kw x st ps n ks idx) : KB K fd ps n ks idx := by
  obtain ⟨oc, od, kV, doc, pm, an, cdv, ct, osl, rfl, lk, hcd⟩ := Fn.ex
  exact fun s us ws _ h1 h2 => .of_eq (h kV doc pm an cdv ct us ws h1 h2)
theorem de_hk0 {ks : List Str} {idx : List Nat} (h : Has X.prog X.w X.K X.mg X.base k x st ps F) (hr : Room k X.A) (gd : X.A.guards = some []) (kb : Kw x st ps 0 ks idx) (hkw : DK X kws tk wk) (hg : Gl X x := by rfl)
    (hall : (backToKw pos (keywordEach kws X.env)).all (·.1.isSome) = true := by rfl) (hks : (backToKw pos (keywordEach kws X.env)).filterMap (·.1) = ks := by rfl)
    (hdb : (x == ("__debug__" : Str)) = false := by decide)
    (hpl : ((backTo pos (starEach [] X.env)).any (·.1) || (backToKw pos (keywordEach kws X.env)).any (·.1.isNone)) = false := by rfl) :
    DE X (.Call (.Name x p) [] kws pos) (tCallGK 0 ks.length idx (lift X.K F) E0 tNil tk) (wCallK 0 ks.length idx F wNil wk) := by
  obtain ⟨f, fd, G, hm, Fn, hb⟩ := h.ex
  exact de_callK0 G hr gd hm Fn.kp (kb_of Fn kb) hkw hg hall hks hdb hpl
end
theorem Has.mk' {P : Program} {w : World} {K : PySem.W.Frag} {mg : Str → Option Value} {base : Heap} {k : Nat} {x : Str} {st : Stmt} {ps : List Str} {F : Fs} {f : Addr} {fd : FuncData} (Fn : Fun K x x st f fd) (hm : mg x = some (.ref f)) (G : FnG P w K mg base k f fd ps (lift K F))
    (hb : ∀ (kV doc pm : Value) (an : Option Addr) (cdv ct : Value) (us : List Value), us.length = ps.length → bindArgs (PySem.W.fnOf x x (defArgs st) (defBody st) (defScope st) .none kV doc pm an cdv ct) ⟨us, []⟩ = pure (ps.zip us)) : Has P w K mg base k x st ps F := ⟨f, fd, G, hm, Fn, Fn.binds hb⟩
/-! ### the draws -/
def drawF : Fs := fun ds M Q _ => ∃ a a0 n, ds = [.tok a, .int n] ∧ M a = some (.drw a0) ∧ 0 < n ∧ n.natAbs.log2 < 9000 ∧ ∀ k, 0 ≤ k → k < n → Q (.int k) M
/-- one of a list's or tuple's items -/
def pickF : Fs := fun ds M Q _ => ∃ a a0 d es, ds = [.tok a, d] ∧ M a = some (.drw a0) ∧ seqD M d = some es ∧ 0 < es.length ∧ es.length ≤ 1000000 ∧ ∀ x ∈ es, Q x M
end L3
namespace L3
open PySem L2
def fIsq : FC := fun ds M Q => match ds with
  | [.int a] => 0 ≤ a ∧ a < 2 ^ 13000 ∧ Q (.int (Float64.isqrt a.toNat : Nat)) M
  | _ => False
end L3
namespace L3
open PySem L2
def fIsB : F2 := fun d e M Q => match d, e with
  | .bl a, .bl b => Q (.bl (decide (a = b))) M
  | _, _ => False
end L3
namespace L3
open PySem L2
/-! ### what the draws need -/
theorem ix_l {K : PySem.W.Frag} {a : Addr} {xs : List V} {k : Int} {y : V} {H : Hp} {Q : VK} (h : H a = some (.lst xs)) (e : atI xs k = some y) (q : Q y H) : rIx K (.ref a) (.int k) H Q :=
  .inl ⟨a, xs, k, y, rfl, rfl, .inl (.inl h), e, q⟩
theorem ne_nil {K : PySem.W.Frag} {a p : Addr} {cs : List Int} {H : Hp} {Q : VK} (h : H a = some (.lst (cs.map V.int))) (hp : H p = some (.lst [])) (q : Q (.bl (decide (cs ≠ []))) H) : rNeD K (.ref a) (.ref p) H Q := by
  have r1 : Rep K H (.ref a) (.lst (cs.map .int)) := .lst (.inl (.inl h)) (.ofInts cs)
  have r2 : Rep K H (.ref p) (.lst []) := .lst (.inl (.inl hp)) .nil
  have f1 : fit 2 (.lst (cs.map .int)) := by
    simp [fit]
  have f2 : fit 2 (.lst []) := by
    simp [fit]
  refine ⟨_, _, Rep.dp 2 _ _ f1 r1, Rep.dp 2 _ _ f2 r2, fit_shaped f1 (by omega), fit_shaped f2 (by omega), ?_⟩
  cases cs with
  | nil => exact q
  | cons c cs => exact q
theorem eq_int {K : PySem.W.Frag} {i j : Int} {H : Hp} {Q : VK} (q : Q (.bl (decide (i = j))) H) : rEqD K (.int i) (.int j) H Q := by
  have f1 : ∀ i : Int, fit 1 (.int i) := fun i => by simp [fit]
  refine ⟨_, _, Rep.dp 1 _ _ (f1 i) (.int i), Rep.dp 1 _ _ (f1 j) (.int j), fit_shaped (f1 i) (by omega), fit_shaped (f1 j) (by omega), ?_⟩
  have e : PyData.eqv (D.py (.int i)) (D.py (.int j)) = decide (i = j) := by
    simp only [D.py, PyData.eqv]
    rfl
  rw [e]
  exact q
theorem at_last {cs : List Int} {c : Int} : atI ((cs ++ [c]).map V.int) (-1) = some (.int c) := by
  have e : ixN ((cs ++ [c]).map V.int).length (-1) = some cs.length := by
    unfold ixN
    simp
    omega
  unfold atI
  rw [e]
  simp
theorem pop_last {a : Addr} {cs : List Int} {c : Int} {H : Hp} {Q : VK} (h : H a = some (.lst ((cs ++ [c]).map V.int))) (q : Q (.int c) (upd H a (.lst (cs.map V.int)))) : rPop (.ref a) [] H Q := by
  refine ⟨a, _, .int c, rfl, rfl, h, by simp, ?_⟩
  rw [List.map_append]
  simpa using q
/-- what stands of the draws -/
structure Dr (H0 : Hp) (a a0 : Addr) (cs : List Int) (s : Int) (H : Hp) : Prop where
  keep : ∀ b o, b ≠ a → b ≠ a0 → H0 b = some o → H b = some o
  ha : H a = some (.lst [.ref a0, .int s])
  h0 : H a0 = some (.lst (cs.map V.int))
  lo : 0 ≤ s
  hi : s < 4294967296
  len : cs.length ≤ 100
  pos : ∀ c ∈ cs, 0 ≤ c
theorem Dr.new {H0 : Hp} {a a0 p : Addr} {cs : List Int} {s : Int} {H : Hp} {o : HO} (h : Dr H0 a a0 cs s H) (hp : H p = none) : Dr H0 a a0 cs s (upd H p o) :=
  ⟨fun b u h1 h2 e => by rw [upd_ne (ne_of_none (h.keep b u h1 h2 e) hp)]; exact h.keep b u h1 h2 e, by rw [upd_ne (ne_of_none h.ha hp)]; exact h.ha, by rw [upd_ne (ne_of_none h.h0 hp)]; exact h.h0, h.lo, h.hi, h.len, h.pos⟩
theorem Dr.ne {H0 : Hp} {a a0 : Addr} {cs : List Int} {s : Int} {H : Hp} (h : Dr H0 a a0 cs s H) : a ≠ a0 := fun e => by
  have z := h.ha
  rw [e, h.h0] at z
  have z2 := HO.lst.inj (Option.some.inj z)
  cases cs with
  | nil => cases z2
  | cons c cs => cases z2
theorem Dr.put {H0 : Hp} {a a0 : Addr} {cs cs' : List Int} {s : Int} {H : Hp} (h : Dr H0 a a0 cs s H) (l : cs'.length ≤ 100) (p : ∀ c ∈ cs', 0 ≤ c) : Dr H0 a a0 cs' s (upd H a0 (.lst (cs'.map V.int))) :=
  ⟨fun b u h1 h2 e => by rw [upd_ne h2]; exact h.keep b u h1 h2 e, by rw [upd_ne h.ne]; exact h.ha, upd_same, h.lo, h.hi, l, p⟩
theorem Dr.stir {H0 : Hp} {a a0 : Addr} {cs : List Int} {s s' : Int} {H : Hp} (h : Dr H0 a a0 cs s H) (l : 0 ≤ s') (u : s' < 4294967296) : Dr H0 a a0 cs s' (upd H a (.lst [.ref a0, .int s'])) :=
  ⟨fun b u h1 h2 e => by rw [upd_ne h1]; exact h.keep b u h1 h2 e, upd_same, by rw [upd_ne h.ne.symm]; exact h.h0, l, u, h.len, h.pos⟩
theorem Dr.ok {H0 : Hp} {a a0 : Addr} {cs : List Int} {s : Int} {H : Hp} (h : Dr H0 a a0 cs s H) : DrawOk H a a0 := ⟨cs, s, h.ha, h.h0, h.lo, h.hi, h.len, h.pos⟩
/-- [xs[::-1], s]: new draws -/
def wDrw (we : WE) (i : Nat) : WE := fun ρ M Q => we ρ M fun d M1 => ∃ (cs : List Int) (s : Int), d = .lst (cs.map .int) ∧ ρ[i]? = some (some (.int s)) ∧ cs.length ≤ 100 ∧ (∀ c ∈ cs, 0 ≤ c) ∧ 0 ≤ s ∧ s < 4294967296 ∧ ∀ p q, M1 p = none → M1 q = none → p ≠ q → Q (.tok q) (setM (setM M1 p .aux) q (.drw p))
section
variable {X : Cx} {e : Expr} {te : TE} {we : WE} {k : Nat} {p1 p2 p3 p4 p5 pos : Pos} {x : Str}
theorem sim_drw {K : PySem.W.Frag} (i : Nat) (he : SimE K te we) : SimE K (tLst (tCons (tRevL K te) (tCons (tVar i) tNil))) (wDrw we i) := by
  intro Z ρ M σ H Q Q' r h q
  refine he Z ρ M σ H _ _ r h fun x d H1 M1 g1 r1 q1 => ?_
  obtain ⟨cs, s, rfl, hi, hl, hpos, s0, s1, q2⟩ := q1
  cases r1 with
  | lst hs rl =>
    obtain rfl := rl.ints
    refine ⟨_, _, rfl, fz_sub.seq hs, fun p hp => ?_⟩
    obtain ⟨v, e1, rv⟩ := r.env.2 i _ hi
    cases rv
    refine ⟨.int s, e1, (by show 2 ≤ sizeLine; decide), fun o ho => ?_⟩
    have npo : p ≠ o := fun z => by
      subst z
      rw [upd_same] at ho
      cases ho
    have ho1 : H1 o = none := by
      rw [upd_ne npo.symm] at ho
      exact ho
    have m1p := g1.sat.free hp
    have m1o := g1.sat.free ho1
    have z1p := g1.sat.freeZ hp
    have z1o := g1.sat.freeZ ho1
    -- the two new lists
    have up : ∀ b u, H1 b = some u → upd (upd H1 p (.lst ((cs.map V.int).reverse))) o (.lst [.ref p, .int s]) b = some u := fun b u e => by
      rw [upd_ne (ne_of_none e ho1), upd_ne (ne_of_none e hp)]
      exact e
    have mo : ∀ b c, b ≠ p → b ≠ o → M1 b = c → setM (setM M1 p .aux) o (.drw p) b = c := fun b c h1 h2 e => by
      rw [setM_ne h2, setM_ne h1]
      exact e
    have mp : setM (setM M1 p .aux) o (.drw p) p = some .aux := by
      rw [setM_ne npo, setM_same]
    have ex : Same (fz Z H1 M1) (fz Z (upd (upd H1 p (.lst ((cs.map V.int).reverse))) o (.lst [.ref p, .int s])) (setM (setM M1 p .aux) o (.drw p))) := fun b u e => by
      obtain ⟨e1, e2, e3⟩ := fz_is e
      exact fz_to (mo b _ (ne_of_none e3 hp) (ne_of_none e3 ho1) e1) e2 (up b u e3)
    have aux : ∀ b, M1 b = some .aux → setM (setM M1 p .aux) o (.drw p) b = some .aux ∧ ∀ u, H1 b = some u → upd (upd H1 p (.lst ((cs.map V.int).reverse))) o (.lst [.ref p, .int s]) b = some u := fun b e => by
      refine ⟨mo b _ (fun z => ?_) (fun z => ?_) e, up b⟩
      · rw [z, m1p] at e
        cases e
      · rw [z, m1o] at e
        cases e
    have er : (cs.map V.int).reverse = cs.reverse.map V.int := by rw [List.map_reverse]
    have sat : Sat K Z (upd (upd H1 p (.lst ((cs.map V.int).reverse))) o (.lst [.ref p, .int s])) (setM (setM M1 p .aux) o (.drw p)) := by
      refine ⟨fun b c hb => ?_, fun b u hb => ?_⟩
      · by_cases h1 : b = o
        · subst h1
          rw [setM_same] at hb
          cases hb
          exact ⟨mp, cs.reverse, s, upd_same, by rw [upd_ne npo, upd_same, er], s0, s1, by rw [List.length_reverse]; exact hl, fun c hc => hpos c (List.mem_reverse.mp hc)⟩
        · by_cases h2 : b = p
          · subst h2
            rw [mp] at hb
            cases hb
            exact ⟨_, by rw [upd_ne npo, upd_same]⟩
          · rw [setM_ne h1, setM_ne h2] at hb
            exact (g1.sat.cell b c hb).same ex (up b) aux
      · obtain ⟨e1, e2⟩ := g1.sat.zed b u hb
        exact ⟨up b u e1, mo b _ (ne_of_none e1 hp) (ne_of_none e1 ho1) e2⟩
    exact q _ _ _ _ ⟨sat, g1.ex.trans ex⟩ (.tok o) (q2 p o m1p m1o npo)
theorem de_drw (i : Nat) (he : DE X e te we) (hN : X.N[i]? = some x := by rfl) (hv : Vis X.env.scope x := by first | exact Or.inl rfl | exact Or.inr (Or.inl rfl) | exact Or.inr (Or.inr rfl)) (hd : (x == ("__debug__" : Str)) = false := by decide)
    (hcd : (x == ("__classdict__" : Str)) = false := by decide) (h1 : starEach [(.Subscript e (.Slice none none (some (.UnaryOp .USub (.Constant (.int 1) k p1) p2)) p3) p4), (.Name x p5)] X.env = (false, eval (.Subscript e (.Slice none none (some (.UnaryOp .USub (.Constant (.int 1) k p1) p2)) p3) p4) X.env) :: starEach [(.Name x p5)] X.env := by rfl)
    (h2 : starEach [(.Name x p5)] X.env = (false, eval (.Name x p5) X.env) :: starEach [] X.env := by rfl) :
    DE X (.List [(.Subscript e (.Slice none none (some (.UnaryOp .USub (.Constant (.int 1) k p1) p2)) p3) p4), (.Name x p5)] pos) (tLst (tCons (tRevL X.K te) (tCons (tVar i) tNil))) (wDrw we i) :=
  ⟨pe_lst (pa_cons (pe_revL he.pe) (pa_cons (pe_var hN hv hd hcd) pa_nil h2) h1), sim_drw i he.sm⟩
end
/-! ### equality: plain values first -/
def rEqV (K : PySem.W.Frag) : R2 := fun x y H Q => rEq x y H Q ∨ rEqD K x y H Q
def rNeV (K : PySem.W.Frag) : R2 := fun x y H Q => rNe x y H Q ∨ rNeD K x y H Q
theorem op_eqV {X : Cx} {k : Nat} (hr : Room k X.A) : OpR X (compareOp .Eq) (rEqV X.K) := op_eq.or (op_eqG hr)
theorem op_neV {X : Cx} {k : Nat} (hr : Room k X.A) : OpR X (compareOp .NotEq) (rNeV X.K) := op_ne.or (op_neG hr)
def eqS : D → D → Option Bool
  | .int i, .int j => some (decide (i = j))
  | .str i, .str j => some (decide (i = j))
  | .bl i, .bl j => some (decide (i = j))
  | _, _ => none
def eqV (neg : Bool) : F2 := fun d e M Q => match eqS d e with
  | some b => Q (.bl (if neg then !b else b)) M
  | none => eqD2 neg d e M Q
theorem eqS_rep {K : PySem.W.Frag} {H : Hp} {x y : V} {d e : D} {b : Bool} (r1 : Rep K H x d) (r2 : Rep K H y e) (h : eqS d e = some b) : scal x y = true ∧ decide (x = y) = b := by
  unfold eqS at h
  split at h
  · cases r1
    cases r2
    refine ⟨rfl, ?_⟩
    rw [← Option.some.inj h]
    exact decide_eq_decide.mpr ⟨fun z => by cases z; rfl, fun z => by rw [z]⟩
  · cases r1
    cases r2
    refine ⟨rfl, ?_⟩
    rw [← Option.some.inj h]
    exact decide_eq_decide.mpr ⟨fun z => by cases z; rfl, fun z => by rw [z]⟩
  · cases r1
    cases r2
    refine ⟨rfl, ?_⟩
    rw [← Option.some.inj h]
    exact decide_eq_decide.mpr ⟨fun z => by cases z; rfl, fun z => by rw [z]⟩
  · cases h
theorem sim_eqV {K : PySem.W.Frag} : SimR K (rEqV K) (eqV false) := by
  intro Z x y d e H M Q Q' S r1 r2 f q
  unfold eqV at f
  split at f
  · rename_i b h
    obtain ⟨h1, h2⟩ := eqS_rep r1 r2 h
    refine .inl ⟨h1, ?_⟩
    rw [h2]
    exact q _ _ H M (Go.refl S) (.bl _) f
  · exact .inr (sim_eq Z x y d e H M Q Q' S r1 r2 f q)
theorem sim_neV {K : PySem.W.Frag} : SimR K (rNeV K) (eqV true) := by
  intro Z x y d e H M Q Q' S r1 r2 f q
  unfold eqV at f
  split at f
  · rename_i b h
    obtain ⟨h1, h2⟩ := eqS_rep r1 r2 h
    refine .inl ⟨h1, ?_⟩
    rw [h2]
    exact q _ _ H M (Go.refl S) (.bl _) f
  · exact .inr (sim_ne Z x y d e H M Q Q' S r1 r2 f q)
end L3
namespace L3
open PySem L2
end L3
namespace L3
open PySem L2
end L3
namespace L3
open PySem L2
end L3
namespace L3
open PySem L2
section
variable {X : Cx} {E : WX3} {e e2 o a b : Expr} {es : List Expr} {pos p p2 tpos apos cpos : Pos} {elts : List Expr} {kk : Nat} {te to ta tb : TE} {we wo wa wb : WE} {tr : TA} {wr : WA}
/-! ### zip of two tuples, or of two lists -/
/-! ### methods of a list of the store -/
def wApp (wo : WE) (r : WA) : WE := fun ρ M Q => wo ρ M fun d M1 => match d with
  | .tok a => (∃ es, M1 a = some (.lst es)) ∧ r ρ M1 fun ds M2 => match ds with
    | [x] => ∃ es, M2 a = some (.lst es) ∧ es.length < sizeLine ∧ Q .non (setM M2 a (.lst (es ++ [x])))
    | _ => False
  | _ => False
theorem de_append (ho : DE X o to wo) (ha : DA X (e :: es) tr wr) (hs : attributeBase o "append" X.env (eval o X.env) = eval o X.env := by rfl)
    (h2 : (((backTo cpos (starEach (e :: es) X.env)).all fun x => !x.1) && ((backToKw cpos (keywordEach [] X.env)).all fun x => x.1.isSome) && decide (((e :: es).length + ([] : List Keyword).length + if ([] : List Keyword).isEmpty = true then 0 else 1) < 30)) = true := by rfl)
    (h3 : (apos.endLine == cpos.line) = true := by rfl) (h4 : starEach (e :: es) X.env = (false, eval e X.env) :: starEach es X.env := by rfl) (h5 : (backTo cpos (starEach es X.env)).any (·.1) = false := by rfl) :
    DE X (.Call (.Attribute o "append" apos) (e :: es) [] cpos) (tBM X.K "list" rAppend to tr) (wApp wo wr) := by
  refine ⟨pe_bm PySem.F.plainAttrs_list PySem.F.slot_list_append PySem.F.type_list_append mt_append ho.pe ha.pe hs h2 h3 h4 h5, fun Z ρ M σ H Q Q' s h q => ?_⟩
  refine ho.sm Z ρ M σ H _ _ s h fun x d H1 M1 g1 r1 q1 => ?_
  cases d with
  | tok a =>
    cases r1
    obtain ⟨⟨es0, hm⟩, q1⟩ := q1
    obtain ⟨vs0, e0, _⟩ := g1.sat.cell a _ hm
    refine ⟨.inl ⟨rfl, _, .inl (.inl e0)⟩, ?_⟩
    refine ha.sm Z ρ M1 σ H1 _ _ (s.go g1) q1 fun ys ds H2 M2 g2 r2 q2 => ?_
    cases r2 with
    | nil => exact q2.elim
    | cons ra rb =>
      cases rb with
      | nil =>
        obtain ⟨es, hm2, hl, q3⟩ := q2
        obtain ⟨vs, e1, rl⟩ := g2.sat.cell a _ hm2
        refine ⟨a, vs, _, rfl, rfl, e1, by rw [rl.len]; exact hl, ?_⟩
        have g3 := Go.putL (p := a) g2.sat (.inr ⟨es, hm2⟩) (rl.app (.cons ra .nil))
        exact q _ _ _ _ ((g1.trans g2).trans g3) .non q3
      | cons _ _ => exact q2.elim
  | _ => exact q1.elim
end
end L3
namespace L3
open PySem L2
/-! ### how readings are walked, a statement at a time -/
theorem seq_gen {u1 u2 : WS} {D : Ends3} {ρ : En} {M : Mp} (h : ∀ K : En → Mp → Prop, K = u2 D → u1 { D with nx := K } ρ M) : wSeq u1 u2 D ρ M := h _ rfl
theorem for_gen {wi : WI} {g : WG} {wb : WS} {D : Ends3} {ρ : En} {M : Mp} (h : ∀ B : WS, B = wb → wFor wi g B D ρ M) : wFor wi g wb D ρ M := h _ rfl
theorem loop_ix {g : WG} {wb : WS} {Ok : Mp → Prop} {D3 : Ends3} {ds : List D} (P : Nat → En → Mp → Prop)
    (hs : ∀ i d ρ M, ds[i]? = some d → P i ρ M → Ok M ∧ ∀ K : En → Mp → Prop, (∀ ρ' M', P (i + 1) ρ' M' → K ρ' M') → g d ρ M fun ρ1 M1 => wb { D3 with nx := K, ct := K, bk := D3.nx } ρ1 M1)
    (he : ∀ ρ M, P ds.length ρ M → Ok M ∧ D3.nx ρ M) : ∀ {ρ M}, P 0 ρ M → wLoop g wb Ok D3 ds ρ M := by
  have main : ∀ (es : List D) (i : Nat), i ≤ ds.length → ds.drop i = es → ∀ ρ M, P i ρ M → wLoop g wb Ok D3 es ρ M := by
    intro es
    induction es with
    | nil =>
      intro i hi e ρ M h
      have l : ds.length ≤ i := List.drop_eq_nil_iff.mp e
      obtain rfl : i = ds.length := Nat.le_antisymm hi l
      exact he ρ M h
    | cons d es ih =>
      intro i hi e ρ M h
      have l : i < ds.length := by
        rcases Nat.lt_or_ge i ds.length with z | z
        · exact z
        · rw [List.drop_eq_nil_of_le z] at e
          cases e
      have e2 := List.drop_eq_getElem_cons l
      rw [e] at e2
      obtain ⟨e3, e4⟩ := List.cons.inj e2
      obtain ⟨ok, k⟩ := hs i d ρ M (by rw [List.getElem?_eq_getElem l, e3]) h
      exact ⟨ok, k _ fun ρ' M' h' => ih (i + 1) l e4.symm ρ' M' h'⟩
  exact fun {ρ M} h => main ds 0 (Nat.zero_le _) rfl ρ M h
theorem intsD_len {lo : Int} {n : Nat} : (intsD lo n).length = n := by
  unfold intsD
  rw [List.length_map, List.length_range]
/-- .. each of whose values is one of those that P tells -/
theorem lc_any {g : WG} {we : WE} {Ok : Mp → Prop} {ρ : En} {M : Mp} {Q : KD} (P : D → D → Prop) (ok : Ok M) : ∀ (ds acc : List D), acc.length + ds.length ≤ 1000000 → (∀ d ∈ ds, ∀ K : KD, (∀ y, P d y → K y M) → g d ρ M fun ρ1 M1 => we ρ1 M1 K) →
    (∀ ys : List D, ys.length = ds.length → (∀ (i : Nat) (y : D), ys[i]? = some y → ∃ d, ds[i]? = some d ∧ P d y) → Q (.lst (acc ++ ys)) M) → wLcL g wYes we Ok ρ ds acc M Q
  | [], acc, _, _, q => ⟨ok, by have z := q [] rfl (fun i y h => by rw [List.getElem?_nil] at h; cases h); rw [List.append_nil] at z; exact z⟩
  | d :: ds, acc, hl, hs, q => by
    rw [List.length_cons] at hl
    refine ⟨ok, Nat.lt_of_lt_of_le (by omega : acc.length < 1000000) (by decide), ?_⟩
    have z := hs d List.mem_cons_self (fun y M3 => wLcL g wYes we Ok ρ ds (acc ++ [y]) M3 Q) fun y hy =>
      lc_any P ok ds (acc ++ [y]) (by rw [List.length_append, List.length_singleton]; omega) (fun d' h' => hs d' (List.mem_cons_of_mem _ h')) fun ys hy1 hy2 => by
        rw [List.append_assoc]
        refine q (y :: ys) (by rw [List.length_cons, List.length_cons, hy1]) fun i u hu => ?_
        cases i with
        | zero =>
          rw [List.getElem?_cons_zero] at hu
          exact ⟨d, rfl, (Option.some.inj hu) ▸ hy⟩
        | succ i =>
          rw [List.getElem?_cons_succ] at hu
          rw [List.getElem?_cons_succ]
          exact hy2 i u hu
    exact z
theorem eqV_int {M : Mp} {neg : Bool} {x y : Int} {Q : KD} : eqV neg (.int x) (.int y) M Q ↔ Q (.bl (if neg then !decide (x = y) else decide (x = y))) M := Iff.rfl
theorem eqV_str {M : Mp} {neg : Bool} {x y : Str} {Q : KD} : eqV neg (.str x) (.str y) M Q ↔ Q (.bl (if neg then !decide (x = y) else decide (x = y))) M := Iff.rfl
theorem eqV_bl {M : Mp} {neg : Bool} {x y : Bool} {Q : KD} : eqV neg (.bl x) (.bl y) M Q ↔ Q (.bl (if neg then !decide (x = y) else decide (x = y))) M := Iff.rfl
theorem draw_i {M : Mp} {a a0 : Addr} {n : Int} {Q : KD} {R} (hm : M a = some (.drw a0)) (h0 : 0 < n) (h1 : n.natAbs.log2 < 9000) : drawF [.tok a, .int n] M Q R ↔ ∀ k, 0 ≤ k → k < n → Q (.int k) M := by
  constructor
  · rintro ⟨_, _, _, h, _, _, _, q⟩
    cases h
    exact q
  · exact fun q => ⟨a, a0, n, rfl, hm, h0, h1, q⟩
theorem pick_i {M : Mp} {a a0 : Addr} {es : List D} {Q : KD} {R} (hm : M a = some (.drw a0)) (h0 : 0 < es.length) (h1 : es.length ≤ 1000000) : pickF [.tok a, .lst es] M Q R ↔ ∀ x ∈ es, Q x M := by
  constructor
  · rintro ⟨_, _, _, _, h, _, hs, _, _, q⟩
    cases h
    cases hs
    exact q
  · exact fun q => ⟨a, a0, _, es, rfl, hm, rfl, h0, h1, q⟩
end L3
namespace L3
open PySem L2
section
variable {X : Cx} {pos : Pos}
/-- the name of a built-in type, as a value -/
theorem de_bty {x : Str} {T : String} (hm : X.mg x = none) (hv : bootBuiltins x = some (.type T)) (hg : Gl X x := by rfl) (hn : x ≠ "__name__" := by decide) (hdb : (x == ("__debug__" : Str)) = false := by decide) : DE X (.Name x pos) (tC (.ty T)) (wC (.ty T)) := by
  refine ⟨⟨fun pins s σ H Q I h => ?_⟩, sim_c fun _ => .ty T⟩
  exact ld_blt I hg hm hv ⟨.ty T, H, I, rfl, h⟩ hn hdb
end
/-- what type data is of -/
def tyD (M : Mp) : D → Option String
  | .non => some "NoneType"
  | .bl _ => some "bool"
  | .int _ => some "int"
  | .str _ => some "str"
  | .tup _ => some "tuple"
  | .lst _ => some "list"
  | .tok a => match M a with
    | some (.lst _) => some "list"
    | some (.dic _ _) => some "dict"
    | _ => none
  | .ty _ => none
  | .exc _ _ _ _ _ => none
  | .tpl _ => none
  | .dct _ _ => some "dict"
def subT (t T : String) : Option Bool := match T with
  | "int" => some (t == "int" || t == "bool")
  | "bool" => some (t == "bool")
  | "str" => some (t == "str")
  | "tuple" => some (t == "tuple")
  | "list" => some (t == "list")
  | "dict" => some (t == "dict")
  | _ => none
def fIsi : FC := fun ds M Q => match ds with
  | [d, .ty T] => ∃ t b, tyD M d = some t ∧ subT t T = some b ∧ Q (.bl b) M
  | _ => False
theorem ty_of {K : PySem.W.Frag} {Z : Hp} {H : Hp} {M : Mp} {x : V} {d : D} {t : String} (S : Sat K Z H M) (r : Rep K (fz Z H M) x d) (h : tyD M d = some t) : TyX K H x (.type t) := by
  cases d with
  | non => cases r; cases h; exact .base .non
  | bl b => cases r; cases h; exact .base (.bl b)
  | int i => cases r; cases h; exact .base (.int i)
  | str y => cases r; cases h; exact .base (.str y)
  | ty _ => cases h
  | tok a =>
    cases r
    have h' : (match M a with | some (.lst _) => some "list" | some (.dic _ _) => some "dict" | _ => none) = some t := h
    cases q : M a with
    | none =>
      rw [q] at h'
      cases h'
    | some c =>
      rw [q] at h'
      cases c with
      | lst ds =>
        cases h'
        obtain ⟨vs, e, _⟩ := S.cell a _ q
        exact .base (.lst e)
      | aux => cases h'
      | drw _ => cases h'
      | tab _ _ => cases h'
      | box => cases h'
      | ins _ _ => cases h'
      | dic lk kd =>
        cases h'
        obtain ⟨kv, u, e, l, _⟩ := S.cell a _ q
        cases lk with
        | none =>
          cases l
          exact .base (.dK e)
        | some o =>
          rw [l.2] at e
          exact .fDict e
  | exc _ _ _ _ _ => cases h
  | tpl _ => cases h
  | dct _ _ =>
    cases h
    cases r with
    | dct hx _ _ =>
      rcases hx with hx | ⟨o, hx⟩
      · exact .base (.dK (fz_sub _ _ hx))
      · exact .fDict (fz_sub _ _ hx)
  | tup ds =>
    cases h
    cases r with
    | tup hs _ =>
      rcases sqt_mono fz_sub hs with (e | ⟨o, e⟩) | ⟨o, its, n, e, c, _⟩
      · exact .base (.tup e)
      · exact .fTuple e
      · exact .kTuple e c
  | lst ds =>
    cases h
    cases r with
    | lst hs _ =>
      rcases fz_sub.seq hs with (e | ⟨o, e⟩) | ⟨o, its, n, e, c, _⟩
      · exact .base (.lst e)
      · exact .base (.frz e)
      · exact .kList e c
theorem kit_of (K : PySem.W.Frag) {M : Mp} {d : D} {t T : String} {b : Bool} (h : tyD M d = some t) (hs : subT t T = some b) : PySem.W.kitOne K (.type t) (.type T) = some b := by
  have ht : t = "NoneType" ∨ t = "bool" ∨ t = "int" ∨ t = "str" ∨ t = "tuple" ∨ t = "list" ∨ t = "dict" := by
    cases d with
    | non => cases h; simp
    | bl _ => cases h; simp
    | int _ => cases h; simp
    | str _ => cases h; simp
    | tup _ => cases h; simp
    | lst _ => cases h; simp
    | ty _ => cases h
    | exc _ _ _ _ _ => cases h
    | tpl _ => cases h
    | dct _ _ => cases h; simp
    | tok a =>
      have h' : (match M a with | some (.lst _) => some "list" | some (.dic _ _) => some "dict" | _ => none) = some t := h
      cases q : M a with
      | none =>
        rw [q] at h'
        cases h'
      | some c =>
        rw [q] at h'
        cases c with
        | lst ds => cases h'; simp
        | aux => cases h'
        | drw _ => cases h'
        | tab _ _ => cases h'
        | box => cases h'
        | ins _ _ => cases h'
        | dic _ _ => cases h'; simp
  unfold subT at hs
  split at hs
  · rcases ht with rfl | rfl | rfl | rfl | rfl | rfl | rfl <;> (cases hs; rfl)
  · rcases ht with rfl | rfl | rfl | rfl | rfl | rfl | rfl <;> (cases hs; rfl)
  · rcases ht with rfl | rfl | rfl | rfl | rfl | rfl | rfl <;> (cases hs; rfl)
  · rcases ht with rfl | rfl | rfl | rfl | rfl | rfl | rfl <;> (cases hs; rfl)
  · rcases ht with rfl | rfl | rfl | rfl | rfl | rfl | rfl <;> (cases hs; rfl)
  · rcases ht with rfl | rfl | rfl | rfl | rfl | rfl | rfl <;> (cases hs; rfl)
  · cases hs
/-- isinstance(x, T) -/
theorem sim_isi {K : PySem.W.Frag} : SimC K (rIsi K) fIsi := by
  intro Z xs ds H M Q Q' S r f q
  unfold fIsi at f
  split at f
  · cases r with
    | cons r1 r2 =>
      cases r2 with
      | cons r2 r3 =>
        cases r3
        cases r2
        obtain ⟨t, b, h1, h2, z⟩ := f
        exact ⟨_, _, _, _, b, rfl, .ty _, ty_of S r1 h1, kit_of K h1 h2, q _ _ H M (Go.refl S) (.bl _) z⟩
  · exact f.elim
end L3
namespace L3
open PySem L2
/-! ### min, max of any data that can be compared -/
end L3
namespace L3
open PySem L2
/-! ### iterators that hand out new tuples: their turns from the library's walks -/
end L3
namespace L3
open PySem L2
theorem vals_at {xs : List V} {its : List Value} {i : Nat} {x : Value} (r : Vals xs its) (h : its.toArray[i]? = some x) : RelV (xs.getD i .non) x := by
  have h' : its[i]? = some x := by simpa using h
  have li := (List.getElem?_eq_some_iff.mp h').1
  have l1 := r.length
  obtain ⟨u, e2, ru⟩ := r.get (List.getElem?_eq_getElem (by omega : i < xs.length))
  rw [h'] at e2
  obtain rfl : x = u := Option.some.inj e2
  rw [List.getD_eq_getElem?_getD, List.getElem?_eq_getElem (by omega)]
  exact ru
/-! ### zip of three tuples -/
def n3 (xs ys zs : List V) : Nat := min (min xs.length ys.length) zs.length
/-! by data -/
theorem rep_getd {K : PySem.W.Frag} {H : Hp} {vs : List V} {ds : List D} (r : RepL K H vs ds) (i : Nat) (h : i < ds.length) : Rep K H (vs.getD i .non) (ds.getD i .non) := by
  obtain ⟨v, e1, e2⟩ := r.get (List.getElem?_eq_getElem h)
  rw [List.getD_eq_getElem?_getD, List.getD_eq_getElem?_getD, e1, List.getElem?_eq_getElem h]
  exact e2
end L3
namespace L3
open PySem L2
/-! ### max of three ints -/
end L3
namespace L3
open PySem L2
/-! ### vectors, distances, what lies beyond: the mathematics -/
def vec (v : List Int) : D := .tup (v.map .int)
/-- small numbers -/
def sm (v : List Int) : Prop := v.length ≤ 64 ∧ ∀ a ∈ v, -30000000 ≤ a ∧ a ≤ 30000000
def rt (n : Int) : Int := (Float64.isqrt n.toNat : Nat)
def sq (k : Str) : Bool := decide (k = "square")
theorem p4 {a b : Int} (ha : 0 ≤ a) (hb : 0 ≤ b) : 0 ≤ 4 * a * b := Int.mul_nonneg (by omega) hb
end L3
namespace L3
open PySem L2
/-! the squares -/
/-! ### joining -/
/-! ### regions -/
/-- vectors of so many places with parts to B -/
def vk (p : Nat) (B : Int) (v : List Int) : Prop := v.length = p ∧ ∀ a ∈ v, -B ≤ a ∧ a ≤ B
/-! ### places of short tuples, lists -/
theorem ix_t0 {a : D} {l : List D} {M : Mp} {Q : KD} : ixD (.tup (a :: l)) (.int 0) M Q ↔ Q a M := by
  constructor
  · rintro ⟨ds, x, h, e, q⟩
    cases h
    simp [atI, ixN] at e
    exact e ▸ q
  · exact fun q => ⟨_, a, rfl, by simp [atI, ixN], q⟩
theorem ix_t1 {a b : D} {l : List D} {M : Mp} {Q : KD} : ixD (.tup (a :: b :: l)) (.int 1) M Q ↔ Q b M := by
  have z : (1 : Int) < (l.length : Int) + 1 + 1 := by omega
  constructor
  · rintro ⟨ds, x, h, e, q⟩
    cases h
    simp [atI, ixN, z] at e
    exact e ▸ q
  · exact fun q => ⟨_, b, rfl, by simp [atI, ixN, z], q⟩
theorem ix_t2 {a b c : D} {l : List D} {M : Mp} {Q : KD} : ixD (.tup (a :: b :: c :: l)) (.int 2) M Q ↔ Q c M := by
  constructor
  · rintro ⟨ds, x, h, e, q⟩
    cases h
    have z : (2 : Int) < (l.length : Int) + 1 + 1 + 1 := by omega
    simp [atI, ixN, z] at e
    exact e ▸ q
  · exact fun q => ⟨_, c, rfl, by
      have z : (2 : Int) < (l.length : Int) + 1 + 1 + 1 := by omega
      simp [atI, ixN, z], q⟩
theorem ix_t3 {a b c d : D} {M : Mp} {Q : KD} : ixD (.tup [a, b, c, d]) (.int 3) M Q ↔ Q d M := by
  constructor
  · rintro ⟨ds, x, h, e, q⟩
    cases h
    simp [atI, ixN] at e
    exact e ▸ q
  · exact fun q => ⟨_, d, rfl, by simp [atI, ixN], q⟩
theorem ix_m3 {a b c : D} {M : Mp} {Q : KD} : ixD (.tup [a, b, c]) (.int (-1)) M Q ↔ Q c M := by
  constructor
  · rintro ⟨ds, x, h, e, q⟩
    cases h
    simp [atI, ixN] at e
    exact e ▸ q
  · exact fun q => ⟨_, c, rfl, by simp [atI, ixN], q⟩
theorem ix_m4 {a b c d : D} {M : Mp} {Q : KD} : ixD (.tup [a, b, c, d]) (.int (-1)) M Q ↔ Q d M := by
  constructor
  · rintro ⟨ds, x, h, e, q⟩
    cases h
    simp [atI, ixN] at e
    exact e ▸ q
  · exact fun q => ⟨_, d, rfl, by simp [atI, ixN], q⟩
/-! names -/
theorem sn_ball_box : (("ball" : Str) = "box") = False := eq_false (by decide +kernel)
theorem sn_cell_box : (("cell" : Str) = "box") = False := eq_false (by decide +kernel)
theorem sn_cell_ball : (("cell" : Str) = "ball") = False := eq_false (by decide +kernel)
theorem sn_ball_cell : (("ball" : Str) = "cell") = False := eq_false (by decide +kernel)
theorem sn_box_ball : (("box" : Str) = "ball") = False := eq_false (by decide +kernel)
theorem sn_box_cell : (("box" : Str) = "cell") = False := eq_false (by decide +kernel)
end L3
namespace L3
open PySem L2
/-- a zip whose handed out tuple may be another's by now -/
def IsZipB (h : Heap) (z TI TO : Addr) (x : Value) (b : Bool) : Prop := h.get? z = some { cls := .type "zip", dict := none, data := .fields #[x, .bool b, .bool false, .ref TI, .ref TO], slots := #[] }
abbrev ZI := Addr × Addr × Array Value
structure ZApart (z TI TO : Addr) (its : List ZI) : Prop where
  zTI : TI ≠ z
  zTO : TO ≠ z
  TT : TI ≠ TO
  iz : ∀ q ∈ its, q.1 ≠ z ∧ q.1 ≠ TI ∧ q.1 ≠ TO
  tz : ∀ q ∈ its, q.2.1 ≠ z ∧ q.2.1 ≠ TO
  ti : ∀ q ∈ its, ∀ r ∈ its, q.2.1 ≠ r.1
  nd : (its.map (·.1)).Nodup
section
variable {prog : Program} {w : World} {A : Around} {E : Value → Shared → Prop} {s : Shared} {z TI TO : Addr} {its : List ZI} {i : Nat}
/-- what is drawn stands -/
structure ZState (h : Heap) (z TI TO : Addr) (its : List ZI) (i : Nat) (x : Value) (b : Bool) (old : List Value) : Prop where
  zip : IsZipB h z TI TO x b
  ti : h.get? TI = some { cls := .type "tuple", data := .seq (its.map fun q => Value.ref q.1).toArray }
  out : h.get? TO = some { cls := .type "tuple", data := .seq old.toArray }
  len : old.length = its.length
  iter : ∀ q ∈ its, h.IsTupleIter q.1 q.2.1 i
  tup : ∀ q ∈ its, h.IsTuple q.2.1 q.2.2
structure ZLoop (hp h : Heap) (z TI TO : Addr) (its pre suf : List ZI) (i : Nat) (x : Value) (b : Bool) (out : List Value) : Prop where
  split : its = pre ++ suf
  zip : IsZipB h z TI TO x b
  ti : h.get? TI = some { cls := .type "tuple", data := .seq (its.map fun q => Value.ref q.1).toArray }
  out : h.get? TO = some { cls := .type "tuple", data := .seq out.toArray }
  done : ∀ q ∈ pre, h.IsTupleIter q.1 q.2.1 (i + 1)
  left : ∀ q ∈ suf, h.IsTupleIter q.1 q.2.1 i
  tup : ∀ q ∈ its, h.IsTuple q.2.1 q.2.2
  keep : ∀ c o, c ≠ z → c ≠ TO → c ∉ its.map (·.1) → hp.get? c = some o → h.get? c = some o
  size : h.objs.size = hp.objs.size
theorem ZLoop.put {hp h h' : Heap} {pre suf : List ZI} {x : Value} {b : Bool} {out out' : List Value} (D : ZApart z TI TO its) (L : ZLoop hp h z TI TO its pre suf i x b out) (sb : Heap.SameBut TO h h') (ho : h'.get? TO = some { cls := .type "tuple", data := .seq out'.toArray }) : ZLoop hp h' z TI TO its pre suf i x b out' := by
  have m1 : ∀ r ∈ pre, r ∈ its := fun r hr => by rw [L.split]; exact List.mem_append_left _ hr
  have m2 : ∀ r ∈ suf, r ∈ its := fun r hr => by rw [L.split]; exact List.mem_append_right _ hr
  exact ⟨L.split, sb.extBut _ _ (Ne.symm D.zTO) L.zip, sb.extBut _ _ D.TT L.ti, ho, fun r hr => (L.done r hr).at fun o e => sb.extBut _ _ (D.iz r (m1 r hr)).2.2 e, fun r hr => (L.left r hr).at fun o e => sb.extBut _ _ (D.iz r (m2 r hr)).2.2 e,
    fun r hr => (L.tup r hr).at fun o e => sb.extBut _ _ (D.tz r hr).2 e, fun c o c1 c2 c3 e => sb.extBut _ _ c2 (L.keep c o c1 c2 c3 e), by rw [sb.1, L.size]⟩
def zval (i : Nat) (q : ZI) : Value := q.2.2.getD i .none
/-! next -/
end
end L3
namespace L3
open PySem L2
end L3
namespace L3
open PySem L2
/-! ### a zip is made -/
end L3
namespace L3
open PySem L2
/-! ### list(zip(..)) of any number of tuples of one length -/
inductive ZRel : List (Addr × List V) → List ZI → Prop
  | nil : ZRel [] []
  | cons {c : Addr × List V} {q : ZI} {cs : List (Addr × List V)} {its : List ZI} : q.2.1 = c.1 → Vals c.2 q.2.2.toList → ZRel cs its → ZRel (c :: cs) (q :: its)
def zrow (cs : List (Addr × List V)) (i : Nat) : List V := cs.map fun c => c.2.getD i .non
theorem ZRel.row {i : Nat} : ∀ {cs : List (Addr × List V)} {its : List ZI}, ZRel cs its → (∀ q ∈ its, i < q.2.2.size) → Vals (zrow cs i) (its.map (zval i))
  | _, _, .nil, _ => .nil
  | _, _, .cons (q := q) e v r, h => by
    refine .cons (vals_at v ?_) (ZRel.row r fun q' hq => h q' (List.mem_cons_of_mem _ hq))
    rw [Array.toArray_toList]
    unfold zval
    rw [Array.getD_eq_getD_getElem?, Array.getElem?_eq_getElem (h q List.mem_cons_self)]
    rfl
theorem ZRel.len : ∀ {cs : List (Addr × List V)} {its : List ZI}, ZRel cs its → its.length = cs.length
  | _, _, .nil => rfl
  | _, _, .cons _ _ r => by rw [List.length_cons, List.length_cons, r.len]
section
variable {X : Cx} {pins : List (Addr × Obj)} {σ : L2.St} {z TI TO S : Addr} {its : List ZI} {cs : List (Addr × List V)} {n : Nat} {A1 : Around}
theorem ZState.keep {h h' : Heap} {i : Nat} {x : Value} {b : Bool} {old : List Value} (st : ZState h z TI TO its i x b old) (k : ∀ c o, c ∈ z :: TI :: TO :: (its.map (·.1) ++ its.map (·.2.1)) → h.get? c = some o → h'.get? c = some o) : ZState h' z TI TO its i x b old :=
  ⟨k _ _ (by simp) st.zip, k _ _ (by simp) st.ti, k _ _ (by simp) st.out, st.len, fun q hq => (st.iter q hq).at fun o e => k _ _ (by simp; exact .inr (.inr (.inr (.inl ⟨_, _, hq⟩)))) e, fun q hq => (st.tup q hq).at fun o e => k _ _ (by simp; exact .inr (.inr (.inr (.inr ⟨_, _, hq⟩)))) e⟩
end
end L3
namespace L3
open PySem L2
end L3
namespace L3
open PySem L2
/-! ### by data -/
inductive CRel (K : PySem.W.Frag) (H : Hp) : List (Addr × List V) → List (List D) → Prop
  | nil : CRel K H [] []
  | cons {c : Addr × List V} {xs : List D} {cs : List (Addr × List V)} {xss : List (List D)} : SqT K H c.1 c.2 → RepL K H c.2 xs → CRel K H cs xss → CRel K H (c :: cs) (xs :: xss)
theorem CRel.len {K : PySem.W.Frag} {H : Hp} : ∀ {cs : List (Addr × List V)} {xss : List (List D)}, CRel K H cs xss → cs.length = xss.length
  | _, _, .nil => rfl
  | _, _, .cons _ _ r => by rw [List.length_cons, List.length_cons, r.len]
theorem CRel.row {K : PySem.W.Frag} {H : Hp} {n i : Nat} (hi : i < n) : ∀ {cs : List (Addr × List V)} {xss : List (List D)}, CRel K H cs xss → (∀ xs ∈ xss, xs.length = n) → RepL K H (zrow cs i) (xss.map fun xs => xs.getD i .non)
  | _, _, .nil, _ => .nil
  | _, _, .cons h1 h2 r, h => .cons (rep_getd h2 i (by rw [h _ List.mem_cons_self]; exact hi)) (r.row hi fun xs hx => h xs (List.mem_cons_of_mem _ hx))
end L3
namespace L3
open PySem L2
/-! ### a string in a list or tuple of strings -/
end L3
namespace L3
open PySem L2
/-! ### comprehensions over what is mapped, filtered -/
theorem lc_map {α : Type} {wg : WG} {we : WE} {Ok : Mp → Prop} {ρ : En} {M : Mp} {Q : KD} (f g : α → D) (ok : Ok M) : ∀ (xs : List α) (acc : List D), acc.length + xs.length ≤ 1000000 → (∀ a ∈ xs, ∀ K : KD, K (g a) M → wg (f a) ρ M fun ρ1 M1 => we ρ1 M1 K) →
    Q (.lst (acc ++ xs.map g)) M → wLcL wg wYes we Ok ρ (xs.map f) acc M Q
  | [], acc, _, _, q => ⟨ok, by rw [List.map_nil, List.append_nil] at q; exact q⟩
  | a :: xs, acc, hl, hs, q => by
    rw [List.length_cons] at hl
    refine ⟨ok, Nat.lt_of_lt_of_le (by omega : acc.length < 1000000) (by decide), ?_⟩
    have z := hs a List.mem_cons_self (fun y M3 => wLcL wg wYes we Ok ρ (xs.map f) (acc ++ [y]) M3 Q)
      (lc_map f g ok xs (acc ++ [g a]) (by rw [List.length_append, List.length_singleton]; omega) (fun d' h' => hs d' (List.mem_cons_of_mem _ h')) (by rw [List.append_assoc]; exact q))
    exact z
theorem lc_filt {α : Type} {wg : WG} {wt : WT} {we : WE} {Ok : Mp → Prop} {ρ : En} {M : Mp} {Q : KD} (f g : α → D) (b : α → Bool) (ok : Ok M) : ∀ (xs : List α) (acc : List D), acc.length + xs.length ≤ 1000000 →
    (∀ a ∈ xs, ∀ (A : KD) (B : Mp → Prop), (b a = true → A (g a) M) → (b a = false → B M) → wg (f a) ρ M fun ρ1 M1 => wt ρ1 M1 fun c M2 => if c = true then we ρ1 M2 A else B M2) →
    Q (.lst (acc ++ (xs.filter b).map g)) M → wLcL wg wt we Ok ρ (xs.map f) acc M Q
  | [], acc, _, _, q => ⟨ok, by rw [List.filter_nil, List.map_nil, List.append_nil] at q; exact q⟩
  | a :: xs, acc, hl, hs, q => by
    rw [List.length_cons] at hl
    refine ⟨ok, Nat.lt_of_lt_of_le (by omega : acc.length < 1000000) (by decide), ?_⟩
    refine hs a List.mem_cons_self (fun y M3 => wLcL wg wt we Ok ρ (xs.map f) (acc ++ [y]) M3 Q) (fun M2 => wLcL wg wt we Ok ρ (xs.map f) acc M2 Q) (fun hb => ?_) (fun hb => ?_)
    · refine lc_filt f g b ok xs _ (by rw [List.length_append, List.length_singleton]; omega) (fun d' h' => hs d' (List.mem_cons_of_mem _ h')) ?_
      rw [List.filter_cons_of_pos hb] at q
      rw [List.append_assoc]
      exact q
    · refine lc_filt f g b ok xs _ (by omega) (fun d' h' => hs d' (List.mem_cons_of_mem _ h')) ?_
      rw [List.filter_cons_of_neg (by rw [hb]; decide)] at q
      exact q
theorem if_gen {t : WT} {a b : WS} {D3 : Ends3} {ρ : En} {M : Mp} (h : ∀ A, A = a → wIfS t A b D3 ρ M) : wIfS t a b D3 ρ M := h a rfl
end L3
namespace L3
open PySem L2
/-! ### what is raised -/
/-- an expression out of which something may be raised -/
def SimX (K : PySem.W.Frag) (W : WX3) (t : TE) (w : XR → WE) : Prop := ∀ (xr : XR) (Z : Hp) (ρ : En) (M : Mp) (σ : L2.St) (H : Hp) (Q : KD) (Q' : VK), R3 K Z ρ M σ H → w xr ρ M Q → (∀ v d H' M', Go K Z H M H' M' → Rep K (fz Z H' M') v d → Q d M' → Q' v H') →
  (∀ x C dx vs (fs : XV) H' M', ClsAt K x C → Go K Z H M H' M' → fz Z H' M' dx = some (.xd (fs.1.zip vs)) → fs.1.length = vs.length → RepL K (fz Z H' M') vs fs.2 → xr x dx fs ρ M' → W (.ref C) (some dx) σ H') → t σ H Q'
structure DX (X : Cx) (W : WX3) (e : Expr) (t : TE) (w : XR → WE) : Prop where
  pe : PE X e t
  sm : SimX X.K W t w
section
variable {X : Cx} {W : WX3} {e : Expr} {es : List Expr} {t te : TE} {we : WE} {wx : XR → WE} {pos p : Pos} {k : Nat} {tr tk : TA} {wr wk : WA} {x : Str} {st : Stmt} {ps : List Str} {F : Fs} {kws : List Keyword} {f : Addr} {fd : FuncData} {sp : Sp} {E : L2.St → XK}
theorem run_gX {pins : List (Addr × Obj)} {σ : L2.St} {H : Hp} {s : Shared} {Q : VK} {us ws : List Value} {vs : List V} {kw : List (Str × Value)} (G : FnG X.prog X.w X.K X.mg X.base k f fd ps sp) (hr : Room k X.A) (gd : X.A.guards = some [])
    (hx : PassesAt (L2.CX X.prog X.w) X σ (E σ)) (I : Inv X pins σ H s) (hb : BindsTo s fd ⟨us, kw⟩ (ps.zip ws)) (r : Vals vs ws) (h : sp vs H Q (E σ)) : wpAny (model X.prog X.w) X.A (call (.ref f) us kw) (EP X pins σ Q) X.xe s := by
  refine wpAny_call (codeAny_mono (G.run X.A X.stack s H ⟨us, kw⟩ ws vs Q (E σ) gd hr I.env0 hb r h) fun rr s' hq => ?_)
  cases rr with
  | error er => exact hx pins H s er s' I hq
  | ok fl =>
    cases fl with
    | ret u => exact I.after hq
    | next => exact hq.elim
    | brk => exact hq.elim
    | cont => exact hq.elim
def tCallX (sp : Sp) (E : L2.St → XK) (t : TA) : TE := fun σ H Q => t σ H fun vs J => sp vs J Q (E σ)
theorem pe_callX (G : FnG X.prog X.w X.K X.mg X.base k f fd ps sp) (hr : Room k X.A) (gd : X.A.guards = some []) (hg : Gl X x) (hm : X.mg x = some (.ref f)) (hk : PySem.W.keepIn X.K (.ref f) = true) (hb : Binds X.K fd ps []) (hx : ∀ σ, PassesAt (L2.CX X.prog X.w) X σ (E σ))
    (ha : PA X (e :: es) tr) (hdb : (x == ("__debug__" : Str)) = false := by decide) (he : starEach (e :: es) X.env = (false, eval e X.env) :: starEach es X.env := by rfl) (hpl : (backTo pos (starEach es X.env)).any (·.1) = false := by rfl) :
    PE X (.Call (.Name x p) (e :: es) [] pos) (tCallX sp E tr) := by
  refine ⟨fun pins s σ H Q I h => wpAny_Call_Name_kw (ld_glob I hg hm ?_ hdb)⟩
  refine PySem.W.callWith_K (h₀ := X.base) I.ok.mod.kin hk (thn (ha.run pos pins s σ H _ I h) fun us s1 ⟨vs, J, I1, r, q⟩ => ⟨I1.kIn, ?_⟩) he hpl
  have hl : (us ++ []).length = ps.length := by rw [List.append_nil, ← r.length]; exact G.len _ _ _ _ q
  have z := hb s1 us I1.kIn hl
  rw [List.append_nil] at z
  exact run_gX (us := us) (kw := []) G hr gd (hx σ) I1 z r q
/-- a call by its contract, what it raises is wished for -/
def wCallX (F : Fs) (r : WA) : XR → WE := fun xr ρ M Q => r ρ M fun ds M1 => F ds M1 Q fun x fs M2 => ∀ dx, xr x dx fs ρ M2
theorem sim_callX {K : PySem.W.Frag} (ha : SimA K tr wr) : SimX K W (tCallX (lift K F) (L2.WE W) tr) (wCallX F wr) := by
  intro xr Z ρ M σ H Q Q' s h q qx
  refine ha Z ρ M σ H _ _ s h fun xs ds H1 M1 g1 r1 q1 => ?_
  exact ⟨Z, ds, M1, Q, _, g1.sat, r1, q1, fun v d H2 M2 g2 r2 q2 => q v d H2 M2 (g1.trans g2) r2 q2, fun x C dx vs fs H2 M2 ca g2 e2 l2 r2 z => qx x C dx vs fs H2 M2 ca (g1.trans g2) e2 l2 r2 (z dx)⟩
theorem dx_h (h : Has X.prog X.w X.K X.mg X.base k x st ps F) (hr : Room k X.A) (gd : X.A.guards = some []) (tw : Takes X W) (ha : DA X (e :: es) tr wr) (hg : Gl X x := by rfl) (hdb : (x == ("__debug__" : Str)) = false := by decide)
    (he : starEach (e :: es) X.env = (false, eval e X.env) :: starEach es X.env := by rfl) (hpl : (backTo pos (starEach es X.env)).any (·.1) = false := by rfl) : DX X W (.Call (.Name x p) (e :: es) [] pos) (tCallX (lift X.K F) (L2.WE W) tr) (wCallX F wr) := by
  obtain ⟨f, fd, G, hm, Fn, hb⟩ := h.ex
  exact ⟨pe_callX G hr gd hg hm Fn.kp hb (fun σ => passAt tw σ) ha.pe hdb he hpl, sim_callX ha.sm⟩
/-! statements with such an expression -/
def wDropX (w : XR → WE) : WS := fun D ρ M => w D.xr ρ M fun _ M1 => D.nx ρ M1
theorem ds_exprX (he : DX X W e te wx) (hs : swapsWith e none pos.line X.env = pure false := by rfl) : DS X W (.Expr e pos) (tDrop te) (wDropX wx) :=
  ⟨ps_expr he.pe hs, fun Z D3 ρ M σ H D r h en => he.sm D3.xr Z ρ M σ H _ _ r h (fun v d H1 M1 g r1 q => en.nx ρ M1 σ H1 (r.go g) g q) fun x C dx vs fs H1 M1 ca g e1 l1 r1 z => en.xr x C dx vs fs ρ σ H1 M1 ca (r.go g) g e1 l1 r1 z⟩
end
end L3
namespace L3
open PySem L2
/-! ### own classes of errors: their making, their raising -/
/-- what an own __init__ does that stores its parameters -/
def spI (K : PySem.W.Frag) (ns : List Str) : Sp := fun vs H Q _ => ∃ (a C : Addr) (ys : List V), vs = .ref a :: ys ∧ ys.length = ns.length ∧ OexC K C ∧ (∀ f ∈ ns, PySem.W.findIn K (.ref C) f = some none) ∧ H a = some (exo a C none) ∧
  ∀ dx, H dx = none → dx ≠ a → Q .non (upd (upd H dx (exd dx (ns.zip ys).reverse)) a (exo a C (some dx)))
/-- a class of errors by its name, with its fields as __init__ stores them -/
structure Err (P : Program) (w : World) (K : PySem.W.Frag) (mg : Str → Option Value) (base : Heap) (k : Nat) (x : Str) (ps ns : List Str) : Prop where
  ex : ∃ (C fI : Addr) (fd : FuncData), ClsAt K x C ∧ mg x = some (.ref C) ∧ OexC K C ∧ XfC K C ∧ PySem.W.findIn K (.ref C) "__init__" = some (some (.ref fI)) ∧ PySem.W.typeIn K (.ref fI) = some (.type "function") ∧
    (∀ f ∈ ns, PySem.W.findIn K (.ref C) f = some none) ∧ FnOk P w K mg base (L2.CX P w) k fI fd ps (spI K ns) ∧ Binds K fd ps []
/-- raise x(..) -/
def wRaise (x : Str) (ns : List Str) (wr : WA) : WS := fun D ρ M => wr ρ M fun ds M1 => ds.length = ns.length ∧ ds.length ≤ 1000 ∧ ∀ dx, D.xr x dx (ns.reverse, ds.reverse) ρ M1
theorem zip_rev {α β : Type} {xs : List α} {ys : List β} (h : xs.length = ys.length) : (xs.zip ys).reverse = xs.reverse.zip ys.reverse := by
  unfold List.zip
  exact List.reverse_zipWith h
theorem RepL.rev {K : PySem.W.Frag} {H : Hp} : ∀ {vs : List V} {ds : List D}, RepL K H vs ds → RepL K H vs.reverse ds.reverse
  | _, _, .nil => .nil
  | _, _, .cons r t => by
    rw [List.reverse_cons, List.reverse_cons]
    exact t.rev.app (.cons r .nil)
section
variable {X : Cx} {W : WX3} {e : Expr} {es : List Expr} {tr : TA} {wr : WA} {x : Str} {ps ns : List Str} {k : Nat} {p pos pos2 : Pos}
theorem ds_raise (h : Err X.prog X.w X.K X.mg X.base k x ps ns) (hc : X.calm = true) (hr : Room (k + 1) X.A) (tw : Takes X W) (ha : DA X (e :: es) tr wr) (hg : Gl X x := by rfl)
    (hdb : (x == ("__debug__" : Str)) = false := by decide) (he : starEach (e :: es) X.env = (false, eval e X.env) :: starEach es X.env := by rfl) (hpl : (backTo pos (starEach es X.env)).any (·.1) = false := by rfl) :
    ∃ t, DS X W (.Raise (some (.Call (.Name x p) (e :: es) [] pos)) none pos2) t (wRaise x ns wr) := by
  obtain ⟨C, fI, fd, hcl, hm, T, _, iC, tI, hno, F1, hb⟩ := h.ex
  refine ⟨_, ps_raise hc tw (pmk_oex T iC tI F1 hr hb .nil passL hg hm ha.pe hdb he hpl), fun Z D3 ρ M σ H D r h en => ?_⟩
  refine ha.sm Z ρ M σ H _ _ r h fun vs ds H1 M1 g1 r1 ⟨l1, l2, q1⟩ => ⟨by rw [r1.len]; exact l2, fun a hna => ?_⟩
  refine ⟨a, C, vs, by rw [List.append_nil], by rw [r1.len]; exact l1, T, hno, upd_same, fun dx hdx hne => ⟨rfl, dx, (ns.zip vs).reverse, upd_same, ?_, ?_, ?_⟩⟩
  · rw [upd_ne hne, upd_same]
  · rwa [upd_ne hne] at hdx
  · rw [upd_ne hne] at hdx
    have eq : upd (L2.del (upd (upd (upd H1 a (exo a C none)) dx (exd dx (ns.zip vs).reverse)) a (exo a C (some dx))) a) dx (.xd (ns.zip vs).reverse) = upd H1 dx (.xd (ns.zip vs).reverse) := by
      funext b
      by_cases hb : b = dx
      · subst hb
        rw [upd_same, upd_same]
      · rw [upd_ne hb, upd_ne hb]
        by_cases hb2 : b = a
        · subst hb2
          rw [L2.del_same, hna]
        · rw [L2.del_ne hb2, upd_ne hb2, upd_ne hb, upd_ne hb2]
    show W (.ref C) (some dx) σ (upd (L2.del (upd (upd (upd H1 a (exo a C none)) dx (exd dx (ns.zip vs).reverse)) a (exo a C (some dx))) a) dx (.xd (ns.zip vs).reverse))
    rw [eq]
    have l3 : ns.length = vs.length := by rw [r1.len]; exact l1.symm
    obtain ⟨g2, n2⟩ := Go.laid (p := dx) (o := .xd (ns.zip vs).reverse) g1.sat hdx
    rw [zip_rev l3] at g2 n2 ⊢
    exact en.xr x C dx vs.reverse (ns.reverse, ds.reverse) ρ σ _ M1 hcl (r.go (g1.trans g2)) (g1.trans g2) n2 (by rw [List.length_reverse, List.length_reverse]; exact l3) (r1.rev.up g2.ex) (q1 dx)
end
theorem takes_top {P : Program} {w : World} {K : PySem.W.Frag} {mg : Str → Option Value} {base : Heap} {N : List Str} {qual : Str} {sc : Scope} {f : Addr} {cdv : Value} {A : Around} {outer : List Env} {s : Shared} {H : Hp} {E : XK} :
    Takes (cxOf (L2.CX P w) P w K mg base N qual sc f cdv A outer s H E) (lw E) := takes_of rfl rfl rfl rfl
end L3
namespace L3
open PySem L2
/-! ### try -/
/-- a context that never is -/
theorem takes_void {X : Cx} {W : WX3} {o : Obj} : Takes (X.tr [(X.env.locals, o)] (fun _ _ => False)) W := fun u s' ⟨a, B, sI, pins, σ, H, cls, d, e, I, _⟩ => by
  have z := I.pin (X.env.locals, o) (List.mem_append_left _ List.mem_cons_self)
  exact z.2.2.1 rfl
/-- the wish of a try's body: a table says which classes are caught, ws is what then follows -/
def wTryAs (i : Nat) (hit : Str → Option Bool) (wb : WS) (ws : Addr → Str → Addr → WS) : WS := fun D ρ M => wb { D with xr := fun y dx fs ρ' M' => match hit y with
  | some true => ∀ a, ws a y dx { nx := fun ρ2 M2 => D.nx (ρ2.set i none) M2, rt := D.rt, bk := fun ρ2 M2 => D.bk (ρ2.set i none) M2, ct := fun ρ2 M2 => D.ct (ρ2.set i none) M2 } (ρ'.set i (some (.exc a y dx fs.1 fs.2))) M'
  | some false => D.xr y dx fs ρ' M'
  | none => False } ρ M
theorem RelS.gone {K : PySem.W.Frag} {H : Hp} {σ : L2.St} {ρ : En} (h : RelS K H σ ρ) (j : Nat) : RelS K H (σ.set j none) (ρ.set j none) := by
  refine ⟨by rw [List.length_set, List.length_set]; exact h.1, fun i e q => ?_⟩
  by_cases hij : i = j
  · subst hij
    by_cases hl : i < ρ.length
    · rw [List.getElem?_set_self hl] at q
      cases q
    · rw [List.getElem?_eq_none (by rw [List.length_set]; omega)] at q
      cases q
  · rw [List.getElem?_set_ne (Ne.symm hij)] at q ⊢
    exact h.2 i e q
/-- the context, to be named -/
structure CxIs (X : Cx) : Prop where
/-- a table of classes, by their names, against the class that a clause names -/
def Hits (K : PySem.W.Frag) (c : Value) (hit : Str → Option Bool) : Prop := ∀ (y : Str) (C : Addr) (b : Bool), ClsAt K y C → hit y = some b → PySem.W.exmOne K (.ref C) c = some b
/-- nothing -/
def o0 : Obj := ⟨.none, none, .fields #[], #[]⟩
def tsOf (K : PySem.W.Frag) (hit : Str → Option Bool) (ts : Addr → Str → Addr → Addr → Obj → List (Addr × Obj) → TS) (a : Addr) (cls : Value) (d : Option Addr) : TS := fun D σ H => ∃ y C dx, cls = .ref C ∧ d = some dx ∧ ClsAt K y C ∧ hit y = some true ∧ ts a y C dx o0 [] D σ H
section
variable {X : Cx} {W : WX3} {x n : Str} {c : Value} {i : Nat} {body suite : List Stmt} {b₀ : Stmt} {np pos pos' : Pos} {tb : WX3 → List (Addr × Obj) → (Value → Shared → Prop) → TS} {ts : Addr → Str → Addr → Addr → Obj → List (Addr × Obj) → TS} {wb : WS} {ws : Addr → Str → Addr → WS} {hit : Str → Option Bool}
theorem suite_pe (hS : ∀ (a : Addr) (oe : Obj) (y : Str) (C dx : Addr) (pn : List (Addr × Obj)), CxIs X → Zc (.ref C) (some dx) oe → (∃ vs, oe.data = .fields vs) → ClsAt X.K y C → hit y = some true → DSs (X.suite a ((a, oe) :: pn)) (fun _ _ _ _ => False) (b₀ :: suite) (ts a y C dx oe pn) (ws a y dx))
    (hts : ∀ a y C dx oe pn, ts a y C dx oe pn = ts a y C dx o0 []) (a : Addr) (oe : Obj) (cls : Value) (d : Option Addr) (pn : List (Addr × Obj)) (z : Zc cls d oe) (f : ∃ vs, oe.data = .fields vs) : PSs (X.suite a ((a, oe) :: pn)) (b₀ :: suite) (tsOf X.K hit ts a cls d) := by
  refine ⟨fun pins s σ H D I ⟨y, C, dx, e1, e2, ca, hy, h⟩ => ?_⟩
  subst e1
  subst e2
  rw [← hts a y C dx oe pn] at h
  exact (hS a oe y C dx pn ⟨⟩ z f ca hy).pe.run pins s σ H D I h
theorem ds_try_as (hs : X.stack = X.env :: X.outer) (hf : X.env.frame = some X.env.locals) (hN : X.N.Nodup) (hi : X.N[i]? = some n) (hln : X.env.kindOf n = some .local) (hc : Names X x c) (tw : Takes X W) (hh : Hits X.K c hit)
    (hb : ∀ (W' : WX3) (pn : List (Addr × Obj)) (xe : Value → Shared → Prop), Takes (X.tr pn xe) W' → PassesOwn (model X.prog X.w) X.A X.env xe → DSs (X.tr pn xe) W' body (tb W' pn xe) wb)
    (hS : ∀ (a : Addr) (oe : Obj) (y : Str) (C dx : Addr) (pn : List (Addr × Obj)), CxIs X → Zc (.ref C) (some dx) oe → (∃ vs, oe.data = .fields vs) → ClsAt X.K y C → hit y = some true → DSs (X.suite a ((a, oe) :: pn)) (fun _ _ _ _ => False) (b₀ :: suite) (ts a y C dx oe pn) (ws a y dx))  (htb : ∀ W' pn xe, tb W' pn xe = tb W' [] (fun _ _ => False) := by intros; rfl) (hts : ∀ a y C dx oe pn, ts a y C dx oe pn = ts a y C dx o0 [] := by intros; rfl) :
    DS X W (.Try body [.ExceptHandler (some (.Name x np)) (some n) (b₀ :: suite) pos'] [] [] pos) (fun D σ H => tb (wAs X.K c i (tsOf X.K hit ts) W D) [] (fun _ _ => False) D σ H) (wTryAs i hit wb ws) := by
  refine ⟨ps_try_as hs hf hN hi hln hc tw (tb := fun W' => tb W' [] (fun _ _ => False)) (fun W' pn xe tk pw => htb W' pn xe ▸ (hb W' pn xe tk pw).pe) (suite_pe hS hts), fun Z D3 ρ M σ H D r h en => ?_⟩
  have sm := (hb (wAs X.K c i (tsOf X.K hit ts) W D) [(X.env.locals, ⟨.none, none, .fields #[], #[]⟩)] (fun _ _ => False) takes_void PassesOwn.never).sm
  rw [htb] at sm
  refine sm Z _ ρ M σ H D r h ⟨en.nx, en.rt, en.bk, en.ct, fun y C dx vs fs ρ' σ' H' M' ca r' g e1 l1 rf z => ?_⟩
  dsimp only at z
  cases hy : hit y with
  | none =>
    rw [hy] at z
    exact z.elim
  | some b =>
    rw [hy] at z
    refine ⟨b, hh y C b ca hy, fun hb' a _ => ?_, fun hb' => ?_⟩
    · subst hb'
      have sm2 := (hS a ⟨.ref C, some dx, .fields #[], #[]⟩ y C dx [] ⟨⟩ ⟨rfl, rfl⟩ ⟨_, rfl⟩ ca hy).sm
      rw [hts] at sm2
      refine ⟨y, C, dx, rfl, rfl, ca, hy, sm2 Z _ _ M' _ H' _ ⟨r'.sat, r'.env.set i (.exc e1 l1 rf)⟩ (z a) ⟨fun ρ2 M2 σ2 H2 r2 g2 q => ?_, fun v d H2 M2 g2 r2 q => en.rt v d H2 M2 (g.trans g2) r2 q, fun ρ2 M2 σ2 H2 r2 g2 q => ?_, fun ρ2 M2 σ2 H2 r2 g2 q => ?_, fun _ _ _ _ _ _ _ _ _ _ _ _ _ _ _ z => z.elim⟩⟩
      · exact en.nx _ _ _ _ ⟨r2.sat, r2.env.gone i⟩ (g.trans g2) q
      · exact en.bk _ _ _ _ ⟨r2.sat, r2.env.gone i⟩ (g.trans g2) q
      · exact en.ct _ _ _ _ ⟨r2.sat, r2.env.gone i⟩ (g.trans g2) q
    · subst hb'
      exact en.xr y C dx vs fs ρ' σ' H' M' ca r' g e1 l1 rf z
end
/-! ### in an except suite -/
/-- what a class of errors says of itself -/
structure ErrF (K : PySem.W.Frag) (C : Addr) : Prop where
  xf : XfC K C
  cl : (PySem.W.clsIn K C).isSome = true
  ha : PySem.W.findIn K (.ref C) "__class__" = some (some (.builtin "object.__class__"))
  hn : PySem.W.specialIn K (.builtin "object.__class__") "__get__" = some (some (.builtin "getset_descriptor.__get__"))
  ht : PySem.W.takesIn K (.builtin "object.__class__") = some true
  hm : PySem.W.mroIn K C (.type "object") = some true
section
variable {X : Cx} {a C dx : Addr} {oe : Obj} {y f x : Str} {pn : List (Addr × Obj)} {e : Expr} {te : TE} {we : WE} {p p2 pos : Pos}
/-- e.f, e the error that is held -/
def wXf (a : Addr) (y : Str) (dx : Addr) (f : Str) (we : WE) : WE := fun ρ M Q => we ρ M fun d M1 => match d with
  | .exc a' y' dx' ns ds => a' = a ∧ y' = y ∧ dx' = dx ∧ ∃ d, (ns.zip ds).lookup f = some d ∧ Q d M1
  | _ => False
theorem lookup_rep {K : PySem.W.Frag} {H : Hp} {f : Str} {d : D} : ∀ {ns : List Str} {vs : List V} {ds : List D}, ns.length = vs.length → RepL K H vs ds → (ns.zip ds).lookup f = some d → ∃ v, (ns.zip vs).lookup f = some v ∧ Rep K H v d
  | [], _, _, _, _, h => by cases h
  | n :: ns, [], _, l, _, _ => by cases l
  | n :: ns, v :: vs, _, l, .cons (d := d') (ds := ds') r t, h => by
    have h' : (match f == n with | true => some d' | false => (ns.zip ds').lookup f) = some d := h
    show ∃ v', (match f == n with | true => some v | false => (ns.zip vs).lookup f) = some v' ∧ Rep K H v' d
    cases q : f == n with
    | true =>
      rw [q] at h'
      cases h'
      exact ⟨v, rfl, r⟩
    | false =>
      rw [q] at h'
      exact lookup_rep (Nat.succ.inj l) t h'
theorem de_xf (T : ErrF X.K C) (hno : PySem.W.findIn X.K (.ref C) f = some none) (hz : Zc (.ref C) (some dx) oe) (hf : ∃ vs, oe.data = .fields vs) (he : DE (X.suite a ((a, oe) :: pn)) e te we) (hb : attributeBase e f X.env (eval e X.env) = eval e X.env := by rfl) :
    DE (X.suite a ((a, oe) :: pn)) (.Attribute e f pos) (tXf a (.ref C) (some dx) C f te) (wXf a y dx f we) := by
  refine ⟨pe_xf T.xf hno hz hf he.pe hb, fun Z ρ M σ H Q Q' s h q => ?_⟩
  refine he.sm Z ρ M σ H _ _ s h fun v d H1 M1 g1 r1 q1 => ?_
  cases d with
  | exc a' y' dx' ns ds =>
    obtain ⟨rfl, rfl, rfl, d, hl, q2⟩ := q1
    cases r1 with
    | exc h1 l1 rl =>
      obtain ⟨v, hv, rv⟩ := lookup_rep l1 rl hl
      exact ⟨rfl, rfl, dx', _, v, rfl, fz_sub _ _ h1, hv, q v d H1 M1 g1 rv q2⟩
  | _ => exact q1.elim
end
end L3
namespace L3
open PySem L2
/-! ### plain values compared where an error is handled; tables of classes -/
def eqSc (neg : Bool) : F2 := fun d e M Q => match eqS d e with
  | some b => Q (.bl (if neg then !b else b)) M
  | none => False
theorem sim_eqSc {K : PySem.W.Frag} : SimR K rEq (eqSc false) := by
  intro Z x y d e H M Q Q' S r1 r2 f q
  unfold eqSc at f
  cases h : eqS d e with
  | none =>
    rw [h] at f
    exact f.elim
  | some b =>
    rw [h] at f
    obtain ⟨z1, z2⟩ := eqS_rep r1 r2 h
    subst z2
    exact ⟨z1, q _ _ H M (Go.refl S) (.bl _) f⟩
theorem tab_in {L : List (Str × Bool)} {N : List Str} {y : Str} {b : Bool} (h : L.lookup y = some b) (hs : ∀ p ∈ L, p.1 ∈ N) : y ∈ N := by
  induction L with
  | nil => cases h
  | cons p L ih =>
    obtain ⟨x, c⟩ := p
    have h' : (match y == x with | true => some c | false => L.lookup y) = some b := h
    cases q : y == x with
    | true =>
      rw [beq_iff_eq.mp q]
      exact hs _ List.mem_cons_self
    | false =>
      rw [q] at h'
      exact ih h' fun p hp => hs p (List.mem_cons_of_mem _ hp)
theorem tab_mem {L : List (Str × Bool)} {y : Str} {b : Bool} (h : L.lookup y = some b) : (y, b) ∈ L := by
  induction L with
  | nil => cases h
  | cons p L ih =>
    obtain ⟨x, c⟩ := p
    have h' : (match y == x with | true => some c | false => L.lookup y) = some b := h
    cases q : y == x with
    | true =>
      rw [q] at h'
      cases h'
      rw [beq_iff_eq.mp q]
      exact List.mem_cons_self
    | false =>
      rw [q] at h'
      exact List.mem_cons_of_mem _ (ih h')
theorem cls_one {K : PySem.W.Frag} {y : Str} {C C' : Addr} (h : ClsAt K y C) (h' : ClsAt K y C') : C = C' := by
  unfold ClsAt at h h'
  rw [h] at h'
  cases h'
  rfl
/-- a table of classes from its entries -/
theorem hits_of {K : PySem.W.Frag} {c : Value} {L : List (Str × Bool)} (h : ∀ p ∈ L, ∃ C, ClsAt K p.1 C ∧ PySem.W.exmOne K (.ref C) c = some p.2) : Hits K c (fun x => L.lookup x) := fun y C b ca hy => by
  obtain ⟨C', c1, c2⟩ := h (y, b) (tab_mem hy)
  rw [cls_one ca c1]
  exact c2
theorem cls_all {K : PySem.W.Frag} {N : List Str} {Φ : Addr → Prop} (h : ∀ x ∈ N, ∃ C, ClsAt K x C ∧ Φ C) : ∀ y C, ClsAt K y C → y ∈ N → Φ C := fun y C ca hy => by
  obtain ⟨C', c1, c2⟩ := h y hy
  rw [cls_one ca c1]
  exact c2
theorem de_eqS {X : Cx} {e1 e2 : Expr} {t1 t2 : TE} {w1 w2 : WE} {pos : Pos} (_ : CxIs X) (a : Addr) (oe : Obj) (pn : List (Addr × Obj)) (h1 : DE (X.suite a ((a, oe) :: pn)) e1 t1 w1) (h2 : DE (X.suite a ((a, oe) :: pn)) e2 t2 w2) :
    DE (X.suite a ((a, oe) :: pn)) (.Compare e1 [.Eq] [e2] pos) (tOp rEq t1 t2) (wOp (eqSc false) w1 w2) := de_cmp op_eq sim_eqSc h1 h2
/-- the j-th statement of a class's body -/
def clsAt (s : Stmt) (j : Nat) : Stmt := match s with
  | .ClassDef _ _ _ body _ _ _ _ _ _ _ => body.getD j (.Pass ⟨0, 0, 0, 0⟩)
  | s => s
end L3
namespace L3
open PySem L2
/-! ### a value is itself -/
theorem repr_of {M : Mp} {Q : KD} {n : Nat} {d : D} (hn : n ≤ 60) (h : shw n (res M d)) (hc : cost (res M d) ≤ 16000000) (q : Q (.str (shown (res M d))) M) : fRepr [d] M Q := ⟨⟨n, hn, h⟩, hc, q⟩
end L3
namespace L3
open PySem L2
/-! ### sorted -/
theorem each_vals {K : PySem.W.Frag} {H : Hp} : ∀ {ys : List V} {its : List Value} {ds : List D}, Vals ys its → RepL K H ys ds → PySem.W.EachIs (fun v d => ∃ y, RelV y v ∧ Rep K H y d) its ds
  | _, _, _, .nil, .nil => .nil
  | _, _, _, .cons rv rvs, .cons rd rds => .cons ⟨_, rv, rd⟩ (each_vals rvs rds)
theorem vals_each {K : PySem.W.Frag} {H : Hp} : ∀ {its : List Value} {ds : List D}, PySem.W.EachIs (fun v d => ∃ y, RelV y v ∧ Rep K H y d) its ds → ∃ ys, Vals ys its ∧ RepL K H ys ds
  | _, _, .nil => ⟨[], .nil, .nil⟩
  | _, _, .cons ⟨y, a, b⟩ r => by
    obtain ⟨ys, h1, h2⟩ := vals_each r
    exact ⟨y :: ys, .cons a h1, .cons b h2⟩
theorem each_read {X : Cx} {pins : List (Addr × Obj)} {σ : L2.St} {H : Hp} {s : Shared} (I : L2.Inv X pins σ H s) (n : Nat) : ∀ {ys : List V} {its : List Value} {ds : List D}, Vals ys its → RepL X.K H ys ds → (∀ d ∈ ds, fit n d) → PySem.W.EachIs (fun v d => ∃ as, Reads s.heap v (D.py d) as) its ds
  | _, _, _, .nil, .nil, _ => .nil
  | _, _, _, .cons rv rvs, .cons rd rds, hf => .cons (Dp.reads I _ _ _ (Rep.dp n _ _ (hf _ List.mem_cons_self) rd) rv) (each_read I n rvs rds fun d hd => hf d (List.mem_cons_of_mem _ hd))
def srtD (ds : List D) : List D := ds.mergeSort (PySem.W.dataLe false D.py)
def rSrt (K : PySem.W.Frag) : List V → Hp → VK → Prop := fun xs H Q => ∃ (p : Addr) (ys : List V) (ds : List D) (n : Nat) (Hf : Hp), xs = [.ref p] ∧ SqL K H p ys ∧ RepL K H ys ds ∧ RepL K Hf ys ds ∧ n ≤ 60 ∧ (∀ d ∈ ds, fit n d) ∧ PySem.W.AllAlike (ds.map D.py) ∧ PySem.W.Sortable (ds.map D.py) ∧
  ∀ (l : Addr) (zs : List V), H l = none → RepL K Hf zs (srtD ds) → Q (.ref l) (upd H l (.lst zs))
theorem cr_srt {X : Cx} {k : Nat} (hr : Room k X.A) : CallR X (.builtin "sorted") (rSrt X.K) := by
  intro pins s σ H xs us Q I r h
  obtain ⟨p, ys, ds, n, Hf, rfl, hs, rl, rl2, hn, hf, al, so, q⟩ := h
  rw [Vals.ref1 r]
  obtain ⟨its, rv, pl, hz⟩ := I.list hs
  have hu := hr.units
  have hl : ds.length ≤ sizeLine := by rw [← rl.len]; exact hz
  refine PySem.W.sorted_data (enc := D.py) pl.isList (each_vals rv rl2) (each_read I n rv rl hf) al so hl (fun d hd => ?_) fun out ho he => ?_
  · have := (fit_lay n d (hf d hd)).2
    show X.A.units + 2 + d.py.depth < cLine
    omega
  · obtain ⟨zs, z1, z2⟩ := vals_each he
    obtain ⟨ep, hp⟩ := PyProof.Rows.sortedAll_at s.heap its out.toArray
    refine ⟨.ref _, upd H (s.heap.objs.size + 1) (.lst zs), I.laid (t' := s.toks) (fun _ _ => PyProof.Rows.sortedAll_old) (Nat.le_succ _) ⟨?_, out, ep, z1, hp⟩, rfl, q _ zs (I.hok.fresh (Nat.le_succ _)) z2⟩
    rw [z1.length, ho]
    exact hl
def fSrt : FC := fun ds M Q => match ds with
  | [d] => ∃ (es : List D) (n : Nat), (∃ a, d = .tok a ∨ d = .lst es) ∧ seqD M d = some es ∧ n ≤ 60 ∧ (∀ e ∈ es, fit n e) ∧ PySem.W.AllAlike (es.map D.py) ∧ PySem.W.Sortable (es.map D.py) ∧ Q (.lst (srtD es)) M
  | _ => False
theorem sim_srt {K : PySem.W.Frag} : SimC K (rSrt K) fSrt := by
  intro Z xs ds H M Q Q' S r f q
  unfold fSrt at f
  split at f
  · cases r with
    | cons r1 r2 =>
      cases r2
      obtain ⟨es, n, hd, hs, hn, hf, al, so, z⟩ := f
      obtain ⟨p, vs, rfl, hv, rl⟩ := lst_of S r1 hd hs
      refine ⟨p, vs, es, n, fz Z H M, rfl, hv, rl.up fz_sub, rl, hn, hf, al, so, fun l zs hl rz => ?_⟩
      obtain ⟨g, hn2⟩ := Go.laid (o := .lst zs) S hl
      exact q _ _ _ _ g (.lst (.inl (.inl hn2)) (rz.up g.ex)) z
  · exact f.elim
end L3
namespace L3
open PySem L2
/-! ### enumerate(a tuple) -/
/-! by data -/
end L3
namespace L3
open PySem L2
/-! ### for y in zip(*xs), y one name -/
structure ZHalf (h : Heap) (z TI TO : Addr) (qs : List (Addr × Addr)) (i : Nat) (x : Value) (b : Bool) (old : List Value) : Prop where
  zip : IsZipB h z TI TO x b
  ti : h.get? TI = some { cls := .type "tuple", data := .seq (qs.map fun q => Value.ref q.1).toArray }
  out : h.get? TO = some { cls := .type "tuple", data := .seq old.toArray }
  len : old.length = qs.length
  iter : ∀ q ∈ qs, h.IsTupleIter q.1 q.2 i
theorem ZHalf.keep {h h' : Heap} {z TI TO : Addr} {qs : List (Addr × Addr)} {i : Nat} {x : Value} {b : Bool} {old : List Value} (S : ZHalf h z TI TO qs i x b old) (k : ∀ c ∈ z :: TI :: TO :: qs.map (·.1), ∀ o, h.get? c = some o → h'.get? c = some o) : ZHalf h' z TI TO qs i x b old :=
  ⟨k z (by simp) _ S.zip, k TI (by simp) _ S.ti, k TO (by simp) _ S.out, S.len, fun q hq => (S.iter q hq).at fun o e => k q.1 (by simp; exact .inr (.inr (.inr ⟨_, hq⟩))) o e⟩
/-! by data -/
end L3
namespace L3
open PySem L2
end L3
namespace L3
open PySem L2
/-! ### dicts that change: tokens -/
def dKey : D → Option Key
  | .int i => some (.inl i)
  | .str x => some (.inr x)
  | _ => none
theorem rep_key {K : PySem.W.Frag} {H : Hp} {v : V} {d : D} {k : Key} (r : Rep K H v d) (e : dKey d = some k) : v = kV k := by
  cases d with
  | int i => cases r; cases e; rfl
  | str x => cases r; cases e; rfl
  | _ => cases e
def valD (kd : List (Key × D)) (k : Key) : Option D := (kd.find? fun p => decide (p.1 = k)).map (·.2)
def putD (kd : List (Key × D)) (k : Key) (d : D) : List (Key × D) :=
  if (kd.any fun p => decide (p.1 = k)) = true then kd.map (fun p => if p.1 = k then (p.1, d) else p) else kd ++ [(k, d)]
def dropD (kd : List (Key × D)) (k : Key) : List (Key × D) := kd.filter fun p => decide (p.1 ≠ k)
def mergeD (kd more : List (Key × D)) : List (Key × D) := more.foldl (fun acc p => putD acc p.1 p.2) kd
/-- a dict's pairs, of a token or of a dict that never changes -/
def dicOf (M : Mp) : D → Option (List (Key × D))
  | .tok a => match M a with
    | some (.dic _ kd) => some kd
    | _ => none
  | .dct ks ds => if ks.length = ds.length then some (ks.zip ds) else none
  | _ => none
section
variable {K : PySem.W.Frag} {Z H H' : Hp} {M : Mp}
theorem RepK.nil : RepK K H [] [] := ⟨rfl, .nil⟩
theorem RepK.cons {k : Key} {v : V} {d : D} {kv : List (Key × V)} {kd : List (Key × D)} (r : Rep K H v d) (q : RepK K H kv kd) : RepK K H ((k, v) :: kv) ((k, d) :: kd) := ⟨by rw [List.map_cons, List.map_cons, q.1], .cons r q.2⟩
theorem RepK.uncons {p : Key × V} {kv : List (Key × V)} {kd : List (Key × D)} (q : RepK K H (p :: kv) kd) : ∃ d kd', kd = (p.1, d) :: kd' ∧ Rep K H p.2 d ∧ RepK K H kv kd' := by
  obtain ⟨e, r⟩ := q
  cases kd with
  | nil => cases e
  | cons z kd' =>
    obtain ⟨k, d⟩ := z
    rw [List.map_cons, List.map_cons] at e
    injection e with e1 e2
    rw [List.map_cons, List.map_cons] at r
    cases r with
    | cons r1 r2 =>
      refine ⟨d, kd', ?_, r1, e2, r2⟩
      show (k, d) :: kd' = (p.1, d) :: kd'
      rw [e1]
theorem RepK.nil' {kd : List (Key × D)} (q : RepK K H [] kd) : kd = [] := by
  have e := q.1
  cases kd with
  | nil => rfl
  | cons z r => cases e
theorem RepK.len {kv : List (Key × V)} {kd : List (Key × D)} (q : RepK K H kv kd) : kv.length = kd.length := by
  have := congrArg List.length q.1
  rwa [List.length_map, List.length_map] at this
theorem RepK.val (k : Key) : ∀ {kv : List (Key × V)} {kd : List (Key × D)}, RepK K H kv kd → (valV kv k = none ∧ valD kd k = none) ∨ ∃ v d, valV kv k = some v ∧ valD kd k = some d ∧ Rep K H v d
  | [], kd, q => by
    rw [q.nil']
    exact .inl ⟨rfl, rfl⟩
  | p :: kv, kd, q => by
    obtain ⟨d, kd', rfl, r, q'⟩ := q.uncons
    by_cases h : p.1 = k
    · refine .inr ⟨p.2, d, ?_, ?_, r⟩
      · unfold valV
        rw [List.find?_cons_of_pos (by simpa using h)]
        rfl
      · unfold valD
        rw [List.find?_cons_of_pos (by simpa using h)]
        rfl
    · have e1 : valV (p :: kv) k = valV kv k := by
        unfold valV
        rw [List.find?_cons_of_neg (by simpa using h)]
      have e2 : valD ((p.1, d) :: kd') k = valD kd' k := by
        unfold valD
        rw [List.find?_cons_of_neg (by simpa using h)]
      rw [e1, e2]
      exact RepK.val k q'
theorem RepK.some {k : Key} {d : D} {kv : List (Key × V)} {kd : List (Key × D)} (q : RepK K H kv kd) (e : valD kd k = some d) : ∃ v, valV kv k = some v ∧ Rep K H v d := by
  rcases q.val k with ⟨_, h⟩ | ⟨v, d', h1, h2, r⟩
  · rw [e] at h
    cases h
  · rw [e] at h2
    cases h2
    exact ⟨v, h1, r⟩
theorem RepK.none {k : Key} {kv : List (Key × V)} {kd : List (Key × D)} (q : RepK K H kv kd) (e : valD kd k = none) : valV kv k = none := by
  rcases q.val k with ⟨h, _⟩ | ⟨v, d', h1, h2, r⟩
  · exact h
  · rw [e] at h2
    cases h2
theorem RepK.isSome {k : Key} {kv : List (Key × V)} {kd : List (Key × D)} (q : RepK K H kv kd) : (valV kv k).isSome = (valD kd k).isSome := by
  rcases q.val k with ⟨h, h2⟩ | ⟨v, d', h1, h2, r⟩
  · rw [h, h2]
    rfl
  · rw [h1, h2]
    rfl
theorem RepK.any (k : Key) : ∀ {kv : List (Key × V)} {kd : List (Key × D)}, RepK K H kv kd → (kv.any fun p => decide (p.1 = k)) = kd.any fun p => decide (p.1 = k)
  | [], kd, q => by
    rw [q.nil']
    rfl
  | p :: kv, kd, q => by
    obtain ⟨d, kd', rfl, r, q'⟩ := q.uncons
    rw [List.any_cons, List.any_cons, RepK.any k q']
theorem RepK.snoc {k : Key} {v : V} {d : D} (r : Rep K H v d) : ∀ {kv : List (Key × V)} {kd : List (Key × D)}, RepK K H kv kd → RepK K H (kv ++ [(k, v)]) (kd ++ [(k, d)])
  | [], kd, q => by
    rw [q.nil']
    exact RepK.nil.cons r
  | p :: kv, kd, q => by
    obtain ⟨d', kd', rfl, r', q'⟩ := q.uncons
    exact (RepK.snoc r q').cons r'
theorem RepK.repl {k : Key} {v : V} {d : D} (r : Rep K H v d) : ∀ {kv : List (Key × V)} {kd : List (Key × D)}, RepK K H kv kd → RepK K H (kv.map fun p => if p.1 = k then (p.1, v) else p) (kd.map fun p => if p.1 = k then (p.1, d) else p)
  | [], kd, q => by
    rw [q.nil']
    exact .nil
  | p :: kv, kd, q => by
    obtain ⟨d', kd', rfl, r', q'⟩ := q.uncons
    rw [List.map_cons, List.map_cons]
    by_cases h : p.1 = k
    · rw [if_pos h, if_pos h]
      exact (RepK.repl r q').cons r
    · rw [if_neg h, if_neg h]
      exact (RepK.repl r q').cons r'
theorem RepK.put {k : Key} {v : V} {d : D} {kv : List (Key × V)} {kd : List (Key × D)} (r : Rep K H v d) (q : RepK K H kv kd) : RepK K H (putK kv k v) (putD kd k d) := by
  unfold putK putD
  rw [q.any k]
  split
  · exact RepK.repl r q
  · exact RepK.snoc r q
theorem RepK.drop (k : Key) : ∀ {kv : List (Key × V)} {kd : List (Key × D)}, RepK K H kv kd → RepK K H (dropK kv k) (dropD kd k)
  | [], kd, q => by
    rw [q.nil']
    exact .nil
  | p :: kv, kd, q => by
    obtain ⟨d', kd', rfl, r', q'⟩ := q.uncons
    unfold dropK dropD
    by_cases h : p.1 = k
    · rw [List.filter_cons_of_neg (by simpa using h), List.filter_cons_of_neg (by simpa using h)]
      exact RepK.drop k q'
    · rw [List.filter_cons_of_pos (by simpa using h), List.filter_cons_of_pos (by simpa using h)]
      exact (RepK.drop k q').cons r'
theorem RepK.merge : ∀ {more : List (Key × V)} {moreD : List (Key × D)} {kv : List (Key × V)} {kd : List (Key × D)}, RepK K H more moreD → RepK K H kv kd → RepK K H (mergeK kv more) (mergeD kd moreD)
  | [], moreD, kv, kd, q, q0 => by
    rw [q.nil']
    exact q0
  | p :: more, moreD, kv, kd, q, q0 => by
    obtain ⟨d', m', rfl, r', q'⟩ := q.uncons
    exact RepK.merge (kv := putK kv p.1 p.2) (kd := putD kd p.1 d') q' (q0.put r')
theorem dic_of {v : V} {d : D} {kd : List (Key × D)} (S : Sat K Z H M) (r : Rep K (fz Z H M) v d) (e : dicOf M d = some kd) : ∃ a kv, v = .ref a ∧ Rd H a (.dK kv) ∧ RepK K (fz Z H M) kv kd := by
  cases d with
  | tok a =>
    cases r
    have e' : (match M a with | some (.dic _ kd) => some kd | _ => none) = some kd := e
    cases q : M a with
    | none =>
      rw [q] at e'
      cases e'
    | some c =>
      rw [q] at e'
      cases c with
      | dic lk kd' =>
        cases e'
        obtain ⟨kv, u, h1, l, h2⟩ := S.cell a _ q
        refine ⟨a, kv, rfl, ?_, h2⟩
        cases lk with
        | none =>
          cases l
          exact .inl h1
        | some o =>
          rw [l.2] at h1
          exact .inr ⟨_, h1⟩
      | _ => cases e'
  | dct ks ds =>
    cases r with
    | @dct _ _ vs _ hs hl ha =>
      have e' : (if ks.length = ds.length then some (ks.zip ds) else none) = some kd := e
      by_cases h : ks.length = ds.length
      · rw [if_pos h] at e'
        cases e'
        refine ⟨_, _, rfl, rd_mono fz_sub hs, ?_⟩
        unfold RepK
        rw [List.map_fst_zip (Nat.le_of_eq hl), List.map_fst_zip (Nat.le_of_eq h), List.map_snd_zip (Nat.le_of_eq hl.symm), List.map_snd_zip (Nat.le_of_eq h.symm)]
        exact ⟨rfl, ha⟩
      · rw [if_neg h] at e'
        cases e'
  | _ => cases e
/-- a token's dict that no loop walks -/
theorem dic_free {p : Addr} {kd : List (Key × D)} (S : Sat K Z H M) (e : M p = some (.dic none kd)) : ∃ kv, H p = some (.dK kv) ∧ RepK K (fz Z H M) kv kd := by
  obtain ⟨kv, u, h1, l, h2⟩ := S.cell p _ e
  cases l
  exact ⟨kv, h1, h2⟩
theorem Go.putDic {p : Addr} {kv : List (Key × V)} {kd : List (Key × D)} (S : Sat K Z H M) (hp : H p = none ∨ ∃ c0, M p = some c0 ∧ c0 ≠ .aux) (r : RepK K (fz Z H M) kv kd) : Go K Z H M (upd H p (.dK kv)) (setM M p (.dic none kd)) :=
  Go.put S hp fun ex => ⟨kv, _, upd_same, rfl, r.up ex⟩
end
section
variable {X : Cx} {E : WX3} {e a b o i value : Expr} {es : List Expr} {t ta tb te to ti tv td ty : TE} {w wa wb we wo wi wv wd wy : WE} {pos pos' tpos cpos apos : Pos} {k : Nat}
/-! {} -/
/-! displays -/
def wPairs : List (WE × WE) → En → Mp → (List (D × D) → Mp → Prop) → Prop
  | [], _, M, Q => Q [] M
  | (wk, wv) :: r, ρ, M, Q => wk ρ M fun x M1 => wv ρ M1 fun y M2 => wPairs r ρ M2 fun ps M3 => Q ((x, y) :: ps) M3
def dKeys : List (D × D) → Option (List (Key × D))
  | [] => some []
  | (k, d) :: r => match dKey k, dKeys r with
    | some k, some r => some ((k, d) :: r)
    | _, _ => none
structure DPs (X : Cx) (pos : Pos) (keys : List (Option Expr)) (values : List Expr) (trs : List (TE × TE)) (ws : List (WE × WE)) : Prop where
  pe : PPs X pos keys values trs
  sm : ∀ (Z : Hp) (ρ : En) (M : Mp) (σ : L2.St) (H : Hp) (Q : List (D × D) → Mp → Prop) (Q' : List (V × V) → Hp → Prop), R3 X.K Z ρ M σ H → wPairs ws ρ M Q →
    (∀ v d H' M', Go X.K Z H M H' M' → RepL X.K (fz Z H' M') (v.map (·.1)) (d.map (·.1)) → RepL X.K (fz Z H' M') (v.map (·.2)) (d.map (·.2)) → Q d M' → Q' v H') → tPairs trs σ H Q'
theorem dps_nil : DPs X pos [] [] [] [] := ⟨pps_nil, fun Z ρ M σ H Q Q' r h q => q [] [] H M (Go.refl r.sat) .nil .nil h⟩
theorem dps_cons {kx vx : Expr} {ks : List (Option Expr)} {vs : List Expr} {tk tv : TE} {wk wv : WE} {trs : List (TE × TE)} {ws : List (WE × WE)} (hk : DE X kx tk wk) (hv : DE X vx tv wv) (hr : DPs X pos ks vs trs ws) : DPs X pos (some kx :: ks) (vx :: vs) ((tk, tv) :: trs) ((wk, wv) :: ws) :=
  ⟨pps_cons hk.pe hv.pe hr.pe, fun Z ρ M σ H Q Q' r h q => hk.sm _ _ _ _ _ _ _ r h fun x d H1 M1 g1 r1 h1 => hv.sm _ _ _ _ _ _ _ (r.go g1) h1 fun y d2 H2 M2 g2 r2 h2 => hr.sm _ _ _ _ _ _ _ ((r.go g1).go g2) h2 fun v d3 H3 M3 g3 r3 r4 h3 =>
    q ((x, y) :: v) ((d, d2) :: d3) _ _ ((g1.trans g2).trans g3) (.cons ((r1.up g2.ex).up g3.ex) r3) (.cons (r2.up g3.ex) r4) h3⟩
def wDisp (ws : List (WE × WE)) : WE := fun ρ M Q => ∀ p, M p = none → wPairs ws ρ (setM M p (.dic none [])) fun ps M2 => M2 p = some (.dic none []) ∧ match dKeys ps with
  | some kd => kd.length ≤ 15 ∧ Q (.tok p) (setM M2 p (.dic none (mergeD [] kd)))
  | none => False
theorem keys_of {K : PySem.W.Frag} {H : Hp} : ∀ {ps : List (V × V)} {ds : List (D × D)} {kd : List (Key × D)}, RepL K H (ps.map (·.1)) (ds.map (·.1)) → RepL K H (ps.map (·.2)) (ds.map (·.2)) → dKeys ds = some kd → ∃ kv : List (Key × V), ps = kv.map (fun p => (kV p.1, p.2)) ∧ RepK K H kv kd
  | [], [], kd, _, _, e => by
    cases e
    exact ⟨[], rfl, .nil⟩
  | [], _ :: _, _, r, _, _ => by cases r
  | _ :: _, [], _, r, _, _ => by cases r
  | p :: ps, (k, d) :: ds, kd, r1, r2, e => by
    rw [List.map_cons, List.map_cons] at r1 r2
    cases r1 with
    | cons q1 r1 =>
      cases r2 with
      | cons q2 r2 =>
        unfold dKeys at e
        cases hk : dKey k with
        | none =>
          rw [hk] at e
          cases e
        | some kk =>
          cases hr : dKeys ds with
          | none =>
            rw [hk, hr] at e
            cases e
          | some rr =>
            rw [hk, hr] at e
            cases e
            obtain ⟨kv, e1, e2⟩ := keys_of r1 r2 hr
            refine ⟨(kk, p.2) :: kv, ?_, e2.cons q2⟩
            rw [List.map_cons, ← e1, ← rep_key q1 hk]
theorem de_disp {keys : List (Option Expr)} {values : List Expr} {trs : List (TE × TE)} {ws : List (WE × WE)} (h : DPs X pos keys values trs ws) (hall : keys.all (·.isSome) = true := by rfl) (hl : keys.length = values.length := by rfl) (h0 : keys ≠ [] := by intro z; cases z) (h15 : keys.length ≤ 15 := by decide) : DE X (.Dict keys values pos) (tDisp trs) (wDisp ws) :=
  ⟨pe_disp h.pe hall hl h0 h15, fun Z ρ M σ H Q Q' r hw q p hp => by
    have g := Go.putDic (kv := []) (kd := []) r.sat (.inl hp) RepK.nil
    refine h.sm _ _ _ _ _ _ _ (r.go g) (hw p (r.sat.free hp)) fun v d H1 M1 g1 r1 r2 hq => ?_
    obtain ⟨h1, h2⟩ := hq
    obtain ⟨kv0, e0, e0'⟩ := dic_free g1.sat h1
    obtain rfl : kv0 = [] := by
      have := e0'.len
      exact List.eq_nil_of_length_eq_zero this
    refine ⟨e0, ?_⟩
    cases hk : dKeys d with
    | none =>
      rw [hk] at h2
      exact h2.elim
    | some kd =>
      rw [hk] at h2
      obtain ⟨kv, e1, e2⟩ := keys_of r1 r2 hk
      refine ⟨kv, e1, by rw [e2.len]; exact h2.1, ?_⟩
      have g2 := Go.putDic (p := p) (kv := mergeK [] kv) (kd := mergeD [] kd) g1.sat (.inr ⟨_, h1, fun z => by cases z⟩) (RepK.merge e2 .nil)
      exact q _ _ _ _ ((g.trans g1).trans g2) (.tok p) h2.2⟩
end
end L3
namespace L3
open PySem L2
section
variable {X : Cx} {E : WX3} {e a b o i f value tgt : Expr} {es : List Expr} {t ta tb te to ti tv td ty tx : TE} {w wa wb we wo wi wv wd wy wx : WE} {pos pos' tpos cpos apos p : Pos} {k : Nat} {ts : TS} {ws : WS}
theorem Room.u1 (hr : Room k X.A) : X.A.units + 1 < cLine := by
  have := hr.units
  omega
/-! ### d[k] -/
def fDGet : F2 := fun d y M Q => match dicOf M d, dKey y with
  | some kd, some kk => ∃ x, valD kd kk = some x ∧ Q x M
  | _, _ => False
def wDGet (wd wy : WE) : WE := fun ρ M Q => wd ρ M fun d M1 => wy ρ M1 fun y M2 => fDGet d y M2 Q
theorem dget_of {K : PySem.W.Frag} {Z H : Hp} {M : Mp} {x y : V} {d e : D} {kd : List (Key × D)} {kk : Key} (S : Sat K Z H M) (r1 : Rep K (fz Z H M) x d) (r2 : Rep K (fz Z H M) y e) (h1 : dicOf M d = some kd) (h2 : dKey e = some kk) : ∃ a kv, x = .ref a ∧ RepK K (fz Z H M) kv kd ∧ DGet H a y (valV kv kk) := by
  obtain ⟨a, kv, rfl, hr, rk⟩ := dic_of S r1 h1
  exact ⟨a, kv, rfl, rk, .inl ⟨kv, kk, hr, rep_key r2 h2, rfl⟩⟩
theorem de_dget (hr : Room k X.A) (ho : DE X o td wd) (hi : DE X i ty wy) (hs : NoSl i := by intro _ _; rfl) : DE X (.Subscript o i pos) (tDGet td ty) (wDGet wd wy) :=
  ⟨pe_dget (Room.u1 hr) ho.pe hi.pe hs, fun Z ρ M σ H Q Q' r h q => ho.sm _ _ _ _ _ _ _ r h fun x d H1 M1 g1 r1 h1 => hi.sm _ _ _ _ _ _ _ (r.go g1) h1 fun y e H2 M2 g2 r2 h2 => by
    unfold fDGet at h2
    split at h2
    · rename_i kd kk e1 e2
      obtain ⟨z, hz, hq⟩ := h2
      obtain ⟨a, kv, rfl, rk, dg⟩ := dget_of g2.sat (r1.up g2.ex) r2 e1 e2
      obtain ⟨v, hv, rv⟩ := rk.some hz
      rw [hv] at dg
      exact ⟨a, v, rfl, dg, q _ _ _ _ (g1.trans g2) rv hq⟩
    · exact h2.elim⟩
/-! ### k in d -/
/-! ### d[k] = v -/
/-! ### del d[k] -/
/-! ### len(d), d.get, d.pop, d.setdefault -/
end
end L3
namespace L3
open PySem L2
end L3
namespace L3
open PySem L2
theorem Sat.shown {K : PySem.W.Frag} {Z H : Hp} {M : Mp} {p : Addr} {o : HO} {c : Cell} (S : Sat K (upd Z p o) H M) (hz : Z p = none) (ok : Same (fz (upd Z p o) H M) (fz Z H (setM M p c)) → CellOk K Z H (setM M p c) p c) : Sat K Z H (setM M p c) ∧ Same (fz (upd Z p o) H M) (fz Z H (setM M p c)) := by
  have ex : Same (fz (upd Z p o) H M) (fz Z H (setM M p c)) := fun b u e => by
    obtain ⟨e1, e2, e3⟩ := fz_is e
    have hb : b ≠ p := fun z => by
      subst z
      rw [upd_same] at e2
      cases e2
    rw [upd_ne hb] at e2
    exact fz_to (by rw [setM_ne hb]; exact e1) e2 e3
  have hm : M p = none := (S.zed p o upd_same).2
  refine ⟨⟨fun a c' h => ?_, fun a u h => ?_⟩, ex⟩
  · by_cases ha : a = p
    · subst ha
      rw [setM_same] at h
      cases h
      exact ok ex
    · rw [setM_ne ha] at h
      refine (S.cell a c' h).same ex (fun _ q => q) fun b e => ⟨?_, fun _ q => q⟩
      have hb : b ≠ p := fun z => by
        subst z
        rw [hm] at e
        cases e
      rw [setM_ne hb]
      exact e
  · have ha : a ≠ p := fun z => by
      subst z
      rw [hz] at h
      cases h
    obtain ⟨e1, e2⟩ := S.zed a u (by rw [upd_ne ha]; exact h)
    exact ⟨e1, by rw [setM_ne ha]; exact e2⟩
/-- nothing that stood is changed -/
theorem Go.kept {K : PySem.W.Frag} {Z H H' : Hp} {M : Mp} (S : Sat K Z H M) (k : ∀ b o, H b = some o → H' b = some o) : Go K Z H M H' M := by
  have ex : Same (fz Z H M) (fz Z H' M) := fun b u e => fz_to (fz_is e).1 (fz_is e).2.1 (k _ _ (fz_is e).2.2)
  exact ⟨⟨fun a c h => (S.cell a c h).same ex (fun o q => k _ _ q) fun b e => ⟨e, fun o q => k _ _ q⟩, fun a u h => ⟨k _ _ (S.zed a u h).1, (S.zed a u h).2⟩⟩, ex⟩
end L3
namespace L3
open PySem L2
end L3
namespace L3
open PySem L2
/-! ### isinstance(error, (A, B)) -/
/-! ### x in xs, any data -/
def rInA (K : PySem.W.Frag) (neg : Bool) : R2 := fun x y H Q => ∃ d ds, Dp K H x d ∧ (Dp K H y (.list ds) ∨ Dp K H y (.tuple ds)) ∧ SeqAt.shaped d = true ∧ SeqAt.shaped (.list ds) = true ∧ Q (.bl (if neg then !(ds.any fun z => PyData.eqv z d) else ds.any fun z => PyData.eqv z d)) H
theorem op_inA {X : Cx} {k : Nat} (hr : Room k X.A) : OpR X (compareOp .In) (rInA X.K false) := by
  intro pins s σ H x y v u Q I rx ry h
  obtain ⟨d, ds, hd, he, sd, se, q⟩ := h
  have hu : X.A.units + 65 < cLine := by
    have := hr.un
    omega
  obtain ⟨as, r1⟩ := Dp.reads I d x v hd rx
  rcases he with he | he
  · obtain ⟨bs, r2⟩ := Dp.reads I (.list ds) y u he ry
    exact SeqAt.in_list_reads r2 r1 (SeqAt.canLay_of_shaped se) (SeqAt.canLay_of_shaped sd) (PyProof.Rows.room_in_shaped sd hu) ⟨.bl _, H, I, rfl, q⟩
  · obtain ⟨bs, r2⟩ := Dp.reads I (.tuple ds) y u he ry
    exact SeqAt.in_tuple_reads r2 r1 (SeqAt.canLay_of_shaped se) (SeqAt.canLay_of_shaped sd) (PyProof.Rows.room_in_shaped sd hu) ⟨.bl _, H, I, rfl, q⟩
def inAB (neg : Bool) (d : D) (es : List D) : Bool := if neg then !(es.any fun x => eqD x d) else es.any fun x => eqD x d
def fInA (neg : Bool) : F2 := fun d e M Q => ∃ es n, seqD M e = some es ∧ n ≤ 60 ∧ fit n d ∧ (∀ x ∈ es, fit n x) ∧ Q (.bl (inAB neg d es)) M
theorem any_py (d : D) : ∀ es : List D, ((pyL es).any fun z => PyData.eqv z d.py) = es.any fun x => eqD x d
  | [] => rfl
  | e :: es => by
    rw [pyL, List.any_cons, List.any_cons, any_py d es]
    rfl
theorem sim_inA {K : PySem.W.Frag} {neg : Bool} : SimR K (rInA K neg) (fInA neg) := by
  intro Z x y d e H M Q Q' S r1 r2 f q
  obtain ⟨es, n, hs, hn, fd, fe, z⟩ := f
  obtain ⟨a, vs, rfl, hv, rl⟩ := seq_of S r2 hs
  have dd := Rep.dp n d x fd (r1.up fz_sub)
  have de := RepL.dp n es vs fe (rl.up fz_sub)
  have sh : SeqAt.shaped (.list (pyL es)) = true := fit_shaped (n := n + 1) (d := .lst es) (by simpa only [fit] using fe) (by omega)
  refine ⟨d.py, pyL es, dd, ?_, fit_shaped fd (by omega), sh, ?_⟩
  · rcases hv with hv | hv
    · exact .inl (.lst hv de)
    · exact .inr (.tup hv de)
  · rw [any_py]
    exact q _ _ H M (Go.refl S) (.bl _) z
/-! ### a sign in a text -/
def fInC (neg : Bool) : F2 := fun d e M Q => match d, e with
  | .str x, .str z => ∃ c, x = ⟨#[c]⟩ ∧ Q (.bl (if neg then !decide (c ∈ z.cps.toList) else decide (c ∈ z.cps.toList))) M
  | _, _ => False
def rInC (neg : Bool) : R2 := fun x y H Q => ∃ (c : Nat) (z : Str), x = .str ⟨#[c]⟩ ∧ y = .str z ∧ Q (.bl (if neg then !decide (c ∈ z.cps.toList) else decide (c ∈ z.cps.toList))) H
theorem op_inC {X : Cx} : OpR X (compareOp .In) (rInC false) := op_in_sign
theorem sim_inC {K : PySem.W.Frag} {neg : Bool} : SimR K (rInC neg) (fInC neg) := by
  intro Z x y d e H M Q Q' S r1 r2 f q
  unfold fInC at f
  split at f
  · obtain ⟨c, rfl, f⟩ := f
    cases r1
    cases r2
    exact ⟨c, _, rfl, rfl, q _ _ H M (Go.refl S) (.bl _) f⟩
  · exact f.elim
/-! ### str(n) -/
def fStrI : FC := fun ds M Q => match ds with
  | [.int i] => i.natAbs < 2 ^ 1000 ∧ Q (.str (toString i)) M
  | _ => False
theorem sim_strI {K : PySem.W.Frag} : SimC K (fun xs H Q => ∃ i : Int, xs = [.int i] ∧ i.natAbs.log2 < 1920 ∧ Q (.str (toString i)) H) fStrI := by
  intro Z xs ds H M Q Q' S r f q
  unfold fStrI at f
  split at f
  · cases r with
    | cons r1 r2 =>
      cases r1
      cases r2
      rename_i i
      refine ⟨i, rfl, ?_, q _ _ H M (Go.refl S) (.str _) f.2⟩
      by_cases h0 : i.natAbs = 0
      · rw [h0]
        decide
      · have := (Nat.log2_lt h0).mpr f.1
        omega
  · exact f.elim
/-! ### methods of texts -/
section
variable {X : Cx} {e o : Expr} {te to : TE} {we wo : WE} {apos pos : Pos} {id : String} {name : Str} {r : V → List V → Hp → VK → Prop}
def wS1 (C : Str → Str → Prop) (g : Str → Str → D) (wo we : WE) : WE := fun ρ M Q => wo ρ M fun d M1 => match d with
  | .str a => we ρ M1 fun e M2 => match e with
    | .str b => C a b ∧ Q (g a b) M2
    | _ => False
  | _ => False
theorem de_s1 {C : Str → Str → Prop} {g : Str → Str → D} {g' : Str → Str → V} (slot : Slot "str" name id) (ty : typeOf (.builtin id) = pure (.type "method_descriptor")) (rule : MtR X id r) (hr : ∀ a b H Q, C a b → Q (g' a b) H → r (.str a) [.str b] H Q) (hg : ∀ a b H, Rep X.K H (g' a b) (g a b)) (ho : DE X o to wo) (he : DE X e te we)
    (hs : starEach [e] X.env = [(false, eval e X.env)] := by rfl) (hbase : attributeBase o name X.env (eval o X.env) = eval o X.env := by rfl) (hline : (apos.endLine == pos.line) = true := by rfl) : DE X (.Call (.Attribute o name apos) [e] [] pos) (tM1 r to te) (wS1 C g wo we) :=
  ⟨pe_m1 slot ty rule ho.pe he.pe hs hbase hline, fun Z ρ M σ H Q Q' s h q => ho.sm _ _ _ _ _ _ _ s h fun x d H1 M1 g1 r1 h1 => by
    cases d with
    | str a =>
      cases r1
      refine ⟨⟨a, rfl⟩, he.sm _ _ _ _ _ _ _ (s.go g1) h1 fun y d2 H2 M2 g2 r2 h2 => ?_⟩
      cases d2 with
      | str b =>
        cases r2
        exact hr a b H2 Q' h2.1 (q _ _ _ _ (g1.trans g2) (hg a b _) h2.2)
      | _ => exact h2.elim
    | _ => exact h1.elim⟩
abbrev wStarts (wo we : WE) : WE := wS1 (fun _ _ => True) (fun a b => .bl (Txt.startswith a b)) wo we
abbrev wEnds (wo we : WE) : WE := wS1 (fun _ _ => True) (fun a b => .bl (Txt.endswith a b)) wo we
def wJoin (wo we : WE) : WE := fun ρ M Q => wo ρ M fun d M1 => match d with
  | .str a => we ρ M1 fun e M2 => ∃ ys : List Str, seqD M2 e = some (ys.map .str) ∧ (ys.map (·.length)).sum + ys.length * a.length ≤ 16777216 ∧ Q (.str (Txt.join a ys)) M2
  | _ => False
theorem de_join (ho : DE X o to wo) (he : DE X e te we) (hs : starEach [e] X.env = [(false, eval e X.env)] := by rfl) (hbase : attributeBase o "join" X.env (eval o X.env) = eval o X.env := by rfl) (hline : (apos.endLine == pos.line) = true := by rfl) : DE X (.Call (.Attribute o "join" apos) [e] [] pos) (tM1 (fun x xs H Q => ∃ a p, ∃ ys : List Str, x = .str a ∧ xs = [.ref p] ∧ (SqL X.K H p (ys.map V.str) ∨ SqT X.K H p (ys.map V.str)) ∧ (ys.map (·.length)).sum + ys.length * a.length ≤ 16777216 ∧ Q (.str (Txt.join a ys)) H) to te) (wJoin wo we) :=
  ⟨pe_join ho.pe he.pe hs hbase hline, fun Z ρ M σ H Q Q' s h q => ho.sm _ _ _ _ _ _ _ s h fun x d H1 M1 g1 r1 h1 => by
    cases d with
    | str a =>
      cases r1
      refine ⟨⟨a, rfl⟩, he.sm _ _ _ _ _ _ _ (s.go g1) h1 fun y d2 H2 M2 g2 r2 h2 => ?_⟩
      obtain ⟨ys, h3, h4, h5⟩ := h2
      obtain ⟨p, vs, rfl, hv, rl⟩ := seq_of g2.sat r2 h3
      obtain rfl := rl.strs
      exact ⟨a, p, ys, rfl, rfl, hv, h4, q _ _ _ _ (g1.trans g2) (.str _) h5⟩
    | _ => exact h1.elim⟩
end
/-! ### [..] * k -/
end L3
namespace L3
end L3
namespace L3
open PySem L2
/-! ### equality of data with dicts within -/
def kindD : D → Option Nat
  | .non => some 0
  | .bl _ => some 1
  | .int _ => some 1
  | .str _ => some 2
  | .tup _ => some 3
  | .lst _ => some 4
  | .dct _ _ => some 5
  | _ => none
/-- `EqG n d e b`: d == e is b, by n steps inwards -/
inductive EqG : Nat → D → D → Bool → Prop
  | same {n : Nat} {d e : D} : L3.fit n d → L3.fit n e → EqG n d e (eqD d e)
  | tup {n : Nat} {ds es : List D} (f : Nat → Bool) : (∀ (j : Nat) (d e : D), ds[j]? = some d → es[j]? = some e → EqG n d e (f j)) → EqG (n + 1) (.tup ds) (.tup es) ((List.range (min ds.length es.length)).all f && ds.length == es.length)
  | lst {n : Nat} {ds es : List D} (f : Nat → Bool) : ds.length = es.length → (∀ (j : Nat) (d e : D), ds[j]? = some d → es[j]? = some e → EqG n d e (f j)) → EqG (n + 1) (.lst ds) (.lst es) ((List.range ds.length).all f)
  | lstN {n : Nat} {ds es : List D} : ds.length ≠ es.length → EqG n (.lst ds) (.lst es) false
  | kin {n : Nat} {d e : D} {i j : Nat} : kindD d = some i → kindD e = some j → i ≠ j → EqG n d e false
theorem EqG.up {n m : Nat} {d e : D} {b : Bool} (h : EqG n d e b) (l : n ≤ m) (hf : ∀ (k : Nat) (d : D), L3.fit k d → L3.fit (k + 1) d) : EqG m d e b := by
  induction h generalizing m with
  | @same n d e f1 f2 =>
    have up : ∀ (j : Nat) {d : D}, L3.fit n d → L3.fit (n + j) d := fun j => by
      induction j with
      | zero => exact fun h => h
      | succ j ih => exact fun h => hf _ _ (ih h)
    obtain ⟨j, rfl⟩ := Nat.exists_eq_add_of_le l
    exact .same (up j f1) (up j f2)
  | @tup n ds es f _ ih =>
    obtain ⟨j, rfl⟩ : ∃ j, m = j + 1 := ⟨m - 1, by omega⟩
    exact .tup f fun i d e h1 h2 => ih i d e h1 h2 (by omega : n ≤ j)
  | @lst n ds es f hl _ ih =>
    obtain ⟨j, rfl⟩ : ∃ j, m = j + 1 := ⟨m - 1, by omega⟩
    exact .lst f hl fun i d e h1 h2 => ih i d e h1 h2 (by omega : n ≤ j)
  | lstN h => exact .lstN h
  | kin h1 h2 h3 => exact .kin h1 h2 h3
/-! ### the rules -/
/-! ### x in xs -/
end L3
namespace L3
open PySem L2
/-! ### instances of own classes: tokens of the store, by their class's name -/
/-! fields of the store -/
end L3
namespace L3
open PySem L2
section
variable {X : Cx} {W E3 : WX3} {e o value : Expr} {es : List Expr} {kws : List Keyword} {te to tv : TE} {we wo wv : WE} {tr tk : TA} {wr wk : WA} {pos pos' apos p : Pos} {k : Nat} {x m q f g : Str} {st : Stmt} {ps ks : List Str} {F : Fs} {L : List Str} {n : Nat} {idx : List Nat}
variable {C fa : Addr} {fd : FuncData} {sp : Sp} {E : L2.St → XK}
/-! ### C(..): a new instance -/
/-- the new instance is laid -/
theorem Go.made {K : PySem.W.Frag} {Z H : Hp} {M : Mp} {a dx : Addr} (S : Sat K Z H M) (cl : ClsAt K x C) (h1 : H a = none) (h2 : H dx = none) (ne : dx ≠ a) : Go K Z H M (upd (upd H dx (.own a)) a (.ins C dx [])) (setM M a (.ins x [])) := by
  have g1 := (Go.laid (o := .own a) S h2).1
  have h3 : upd H dx (.own a) a = none := by rw [upd_ne (Ne.symm ne)]; exact h1
  exact g1.trans (Go.put g1.sat (.inl h3) fun ex => ⟨C, dx, [], cl, upd_same, rfl, .nil⟩)
/-! ### the end of a class's text -/
end
end L3
namespace L3
open PySem L2
/-! ### what many laws' texts share -/
/-- what stood stands -/
def Up (M M' : Mp) : Prop := ∀ b c, M b = some c → M' b = some c
theorem Up.refl (M : Mp) : Up M M := fun _ _ h => h
theorem Up.trans {M M' M'' : Mp} (a : Up M M') (b : Up M' M'') : Up M M'' := fun x c h => b x c (a x c h)
theorem Up.set {M : Mp} {p : Addr} {c : Cell} (h : M p = none) : Up M (setM M p c) := fun b d e => by
  by_cases hb : b = p
  · subst hb
    rw [h] at e
    cases e
  · rw [setM_ne hb]
    exact e
/-! values of any kind -/
def tyOk (M : Mp) (d : D) : Prop := (tyD M d).isSome = true
def okD (M : Mp) : Nat → D → Prop
  | 0, d => tyOk M d
  | n + 1, d => tyOk M d ∧ ∀ es, d = .tup es → es.length ≤ 1000 ∧ ∀ e ∈ es, okD M n e
def wordB : D → Bool
  | .tup (.str _ :: _) => true
  | _ => false
theorem cut_ints (ns : List Int) (lo hi : Option Int) : ∃ ms : List Int, cutD (ns.map .int) lo hi = ms.map .int ∧ ms.length ≤ ns.length := by
  unfold cutD
  refine ⟨(ns.drop (HT.sIx (ns.map D.int).length 0 lo)).take (HT.sIx (ns.map D.int).length (ns.map D.int).length hi - HT.sIx (ns.map D.int).length 0 lo), ?_, ?_⟩
  · rw [← List.map_drop, ← List.map_take]
  · rw [List.length_take, List.length_drop]
    omega
theorem set_set {M : Mp} {p : Addr} {c d : Cell} : setM (setM M p c) p d = setM M p d := by
  funext b
  unfold setM
  split <;> rfl
theorem okD.ty {M : Mp} {d : D} : ∀ {n : Nat}, okD M n d → tyOk M d
  | 0, h => h
  | _ + 1, h => h.1
theorem okD.of {M : Mp} {n : Nat} {es : List D} (h : okD M (n + 1) (.tup es)) : es.length ≤ 1000 ∧ ∀ e ∈ es, okD M n e := h.2 es rfl
theorem cut_tail {x : D} {xs : List D} : cutD (x :: xs) (some 1) none = xs := by
  unfold cutD
  have e : HT.sIx (x :: xs).length 0 (some 1) = 1 := by
    have z := HT.sIx_nat (x :: xs).length 0 1
    rw [List.length_cons] at z ⊢
    rw [Nat.min_eq_left (by omega)] at z
    exact z
  rw [e, HT.sIx_none, List.drop_one, List.tail_cons, List.length_cons]
  exact List.take_of_length_le (by omega)
theorem ints_cost : ∀ v : List Int, costL (v.map D.int) = 212 * v.length
  | [] => rfl
  | a :: v => by
    show 210 + 2 + costL (v.map D.int) = _
    rw [ints_cost v, List.length_cons]
    omega
theorem vec_shw {n p : Nat} {B : Int} {v : List Int} (h : vk p B v) (hB : B ≤ 1000000) : shw (n + 1) (vec v) := fun d hd => by
  obtain ⟨a, ha, rfl⟩ := List.mem_map.mp hd
  have := h.2 a ha
  have e : ∀ m, shw m (.int a) ↔ a.natAbs < 2 ^ 200 := fun m => by cases m <;> exact Iff.rfl
  rw [e]
  exact Nat.lt_of_lt_of_le (by omega : a.natAbs < 2 ^ 30) (by decide)
theorem vecs_shw {p : Nat} {B : Int} {vs : List (List Int)} (h : ∀ v ∈ vs, vk p B v) (hB : B ≤ 1000000) : shw 2 (.tup (vs.map vec)) := fun d hd => by
  obtain ⟨v, hv, rfl⟩ := List.mem_map.mp hd
  exact vec_shw (h v hv) hB
theorem vec_cost {p : Nat} {B : Int} {v : List Int} (h : vk p B v) (hp : p ≤ 8) : cost (vec v) ≤ 1700 := by
  show costL (v.map D.int) + 4 ≤ _
  rw [ints_cost, h.1]
  omega
theorem vecs_cost {p : Nat} {B : Int} (hp : p ≤ 8) : ∀ {vs : List (List Int)}, (∀ v ∈ vs, vk p B v) → costL (vs.map vec) ≤ 1702 * vs.length
  | [], _ => Nat.le_refl _
  | v :: vs, h => by
    have h1 := vec_cost (h v List.mem_cons_self) hp
    have h2 := vecs_cost hp (vs := vs) fun u hu => h u (List.mem_cons_of_mem _ hu)
    show cost (vec v) + 2 + costL (vs.map vec) ≤ _
    rw [List.length_cons]
    omega
theorem rp {M : Mp} {p : Nat} {B : Int} {vs : List (List Int)} {Q : KD} (hp : p ≤ 8) (hB : B ≤ 1000000) (h : ∀ v ∈ vs, vk p B v) (hl : vs.length ≤ 1000) (q : Q (.str (shown (.tup (vs.map vec)))) M) : fRepr [.tup (vs.map vec)] M Q := by
  refine repr_of (n := 2) (by decide) (vecs_shw h hB) ?_ q
  show costL (vs.map vec) + 4 ≤ _
  have := vecs_cost hp h
  omega
end L3
namespace L3
open PySem L2
/-! ### values of any shape that are no tokens: whole numbers up to B, texts up to 40 signs, tuples and lists up to L long, the empty dict -/
def val (B L : Nat) : Nat → D → Prop
  | _, .non => True
  | _, .bl _ => True
  | _, .int i => i.natAbs ≤ B
  | _, .str x => PySem.PyData.strOk x = true ∧ x.length ≤ 40
  | _, .ty _ => False
  | _, .tok _ => False
  | _, .exc _ _ _ _ _ => False
  | _, .tpl _ => False
  | _, .dct ks ds => ks = [] ∧ ds = []
  | 0, .tup _ => False
  | 0, .lst _ => False
  | n + 1, .tup ds => ds.length ≤ L ∧ ∀ d ∈ ds, val B L n d
  | n + 1, .lst ds => ds.length ≤ L ∧ ∀ d ∈ ds, val B L n d
/-! the text of a whole number -/
/-! ### regions, places, cuts -/
theorem dic_at {M : Mp} {a : Addr} {l : Option (Obj × List (Key × V))} {kd : List (Key × D)} (h : M a = some (.dic l kd)) : dicOf M (.tok a) = some kd := by
  show (match M a with
    | some (.dic _ kd) => some kd
    | _ => none) = _
  rw [h]
theorem dget_i {M : Mp} {a : Addr} {l : Option (Obj × List (Key × V))} {kd : List (Key × D)} {x : Str} {y : D} {K : KD} (h : M a = some (.dic l kd)) (hv : valD kd (.inr x) = some y) (q : K y M) : fDGet (.tok a) (.str x) M K := by
  unfold fDGet
  rw [dic_at h]
  exact ⟨y, hv, q⟩
end L3
namespace L3
open PySem L2
/-! ### items, sieves, pairs, deeds, states -/
structure Itm where
  key : Int
  vec : List Int
  labs : List (Str × Int)
/-! pairs of a distance and a key -/
/-! deeds -/
inductive Dd where
  | take (k : Int) | put (i : Itm)
def Dd.key : Dd → Int
  | .take k => k
  | .put i => i.key
/-! a dict of items by their keys -/
/-! the pairs of the items that pass -/
end L3
namespace L3
open PySem L2
/-! ### comparisons of data -/
/-! ### o.f += e -/
section
variable {X : Cx} {W E3 : WX3} {e o value : Expr} {es : List Expr} {kws : List Keyword} {te to tv : TE} {we wo wv : WE} {tr tk : TA} {wr wk : WA} {pos pos' apos p tpos : Pos} {k : Nat} {x m q f g : Str} {st : Stmt} {ps ks : List Str} {F : Fs} {L : List Str} {n : Nat} {idx : List Nat}
variable {C fa : Addr} {fd : FuncData} {sp : Sp} {E : L2.St → XK}
/-! ### C(..) where keyword-only parameters with whole numbers as defaults lack -/
def kwI (is : List (Str × Int)) : List (Str × V) := is.map fun p => (p.1, .int p.2)
structure HasCD (P : Program) (w : World) (K : PySem.W.Frag) (mg : Str → Option Value) (base : Heap) (k : Nat) (x q : Str) (st : Stmt) (ps : List Str) (F : Fs) (is : List (Str × Int)) : Prop where
  ex : ∃ (C f : Addr) (fd : FuncData), ClsAt K x C ∧ mg x = some (.ref C) ∧ Mk K C f ∧ FnG P w K mg base k f fd ps (lift K F) ∧ FunD K "__init__" q (defArgs st) (defBody st) (defScope st) [] (kwI is) f fd
theorem HasCD.fn {P : Program} {w : World} {K : PySem.W.Frag} {q : Str} {st : Stmt} {C f : Addr} {fd : FuncData} {is : List (Str × V)} (F : FunD K "__init__" q (defArgs st) (defBody st) (defScope st) [] is f fd) : Fun K "__init__" q st f fd := by
  obtain ⟨oc, od, dV, kV, doc, pm, an, cdv, ct, osl, rfl, lk, hcd, hD, hK⟩ := F.ex
  rcases hD with ⟨_, rfl⟩ | ⟨e, _⟩
  · exact ⟨⟨oc, od, kV, doc, pm, an, cdv, ct, osl, rfl, lk, hcd⟩, F.kp⟩
  · exact absurd rfl e
end
end L3
namespace L3
open PySem L2
/-! ### standing questions: what is kept of all pairs -/
end L3
namespace L3
open PySem L2
end L3
namespace L3
open PySem PySem.Spec PyProof.Rows L2
/-! ### max of a list or a tuple by a key that gives a new tuple of whole numbers -/
section
variable {prog : Program} {w : World} {A : Around} {E : Value → Shared → Prop} {s : Shared}
def keptK (s s' : Shared) : Prop := ∃ g tk, s' = { s with heap := g, toks := tk } ∧ ∀ b o, s.heap.get? b = some o → g.get? b = some o
theorem keptK.refl : keptK s s := ⟨s.heap, s.toks, rfl, fun _ _ e => e⟩
end
/-! ### the key (x[0], -x[1]) -/
end L3
namespace L3
open PySem PySem.Spec PyProof.Rows L2
end L3
namespace L3
open PySem PySem.Spec PyProof.Rows L2
/-! ### a lambda made: its code object is new, or the table tells it -/
/-! ### max(e, key=lambda x: (x[0], -x[1])) of pairs of whole numbers -/
/-! ### a def whose code object's table is known -/
end L3
namespace L3
open PySem L2
/-! ### the law's own call, where defs of it make code objects -/
end L3
namespace L3
open PySem L2
end L3
namespace L3
open PySem PySem.Spec PyProof.Rows L2
/-! ### sets of whole numbers and texts that may be walked -/
section
variable {P : Program} {w : World} {A : Around} {E : Value → Shared → Prop} {s : Shared} {a : Addr}
def mkOf (e : Int × Value) : Key := match e.2 with | .int k _ => .inl k | .str x _ => .inr x | _ => .inl 0
def ItemM (w : World) (e : Int × Value) : Prop := keyIs (mkOf e) e.2 = true ∧ e.1 = keyH w (mkOf e)
theorem itemM_mk {k : Key} {u : Value} (h : keyIs k u = true) : mkOf (keyH w k, u) = k ∧ ItemM w (keyH w k, u) := by
  rcases keyIs_shape h with ⟨i, t, rfl, rfl⟩ | ⟨x, t, rfl, rfl⟩
  · exact ⟨rfl, h, rfl⟩
  · exact ⟨rfl, h, rfl⟩
theorem itemM_is {e : Int × Value} (g : ItemM w e) (k : Key) : keyIs k e.2 = true ↔ mkOf e = k :=
  ⟨fun h => (mixKind default w).inj _ _ _ g.1 h, fun h => h ▸ g.1⟩
theorem itemM_els {l : List (Int × Value)} (g : ∀ e ∈ l, ItemM w e) : ElemsOf (mixKind P w) l := fun e he => ⟨⟨mkOf e, (g e he).1, (g e he).2⟩, by rcases keyIs_shape (g e he).1 with ⟨i, t, _, q⟩ | ⟨x, t, _, q⟩ <;> rw [q] <;> rfl⟩
/-- the set at a: what is in it (S), at most n -/
def SetMx (w : World) (h : Heap) (a : Addr) (S : Key → Prop) (n : Nat) : Prop := ∃ (o : Obj) (es : Array (Int × Value)) (ep : Nat) (t : SetTable), h.get? a = some o ∧ o.ExactSet ∧ o.data = .set es ep t ∧ (∀ e ∈ es.toList, ItemM w e) ∧ (es.toList.map mkOf).Nodup ∧
  (∀ k, k ∈ es.toList.map mkOf ↔ S k) ∧ t.fits es.size = true ∧ es.size ≤ n ∧ Ris t.place.toList ∧ (w.params.followText "set-order" = true ∨ t.led = true)
theorem SetMx.at {h h' : Heap} {S : Key → Prop} {n : Nat} (R : SetMx w h a S n) (k : ∀ o, h.get? a = some o → h'.get? a = some o) : SetMx w h' a S n := R.imp fun o ⟨es, ep, t, e, r⟩ => ⟨es, ep, t, k o e, r⟩
theorem SetMx.congr {h : Heap} {S S' : Key → Prop} {n : Nat} (R : SetMx w h a S n) (e : ∀ k, S k ↔ S' k) : SetMx w h a S' n := R.imp fun o ⟨es, ep, t, h1, h2, h3, h4, h5, h6, r⟩ => ⟨es, ep, t, h1, h2, h3, h4, h5, fun k => (h6 k).trans (e k), r⟩
theorem laid_tail {g : Bool → Sem Unit} (hg : ∀ (b : Bool) (s1 : Shared) (Q : Unit → Shared → Prop), Q () s1 → wpAny (model P w) A (g b) Q E s1) {o : Obj} {es : Array (Int × Value)} {ep : Nat} {t : SetTable} (ho : s.heap.get? a = some o) (hex : o.ExactSet) (hd : o.data = .set es ep t)
    {es1 : Array (Int × Value)} {t2 : SetTable} {S : Key → Prop} {n : Nat} (g1 : ∀ e ∈ es1.toList, ItemM w e) (nd : (es1.toList.map mkOf).Nodup) (m1 : ∀ k, k ∈ es1.toList.map mkOf ↔ S k) (hn : es1.size ≤ n) (hb : n < scanBound) (hf : t2.fits es1.size = true) (hr : Ris t2.place.toList) (hl : w.params.followText "set-order" = true ∨ t2.led = true)
    {wd : Bool} {R : Option Bool → Shared → Prop} (hR : ∀ h1, Heap.SameBut a s.heap h1 → SetMx w h1 a S n → R (some true) { s with heap := h1 }) :
    wpAny (model P w) A (do
      storeSet a es1 t2
      if (!wd && t2.tooFull) = true then do g (relayAll t2 es1 (SetTable.grown es1.size)).2.2; storeSet a (relayAll t2 es1 (SetTable.grown es1.size)).1 (relayAll t2 es1 (SetTable.grown es1.size)).2.1; pure (some true)
      else pure (some true)) R E s := by
  have hb1 : es1.size < scanBound := Nat.lt_of_le_of_lt hn hb
  have k1 := store_at (es' := es1) (t' := t2) ho hd
  have w1 := Heap.SameBut.update s.heap a (Obj.putSet es1 t2)
  refine wpAny_bind (wpAny_storeSet_of ho hd (?_ : _) (fits_of_scanBound hb1)); split
  · have x1 := relayAll_perm t2 es1 (SetTable.grown es1.size); have x2 := relayAll_fits t2 es1 (SetTable.grown es1.size); have x3 := relayAll_ris t2 es1 (SetTable.grown es1.size); have x4 := relayAll_led t2 es1 (SetTable.grown es1.size)
    generalize relayAll t2 es1 (SetTable.grown es1.size) = z at x1 x2 x3 x4 ⊢; obtain ⟨es2, t3, gv⟩ := z; dsimp only at x1 x2 x3 x4 ⊢
    have sz : es2.size = es1.size := by rw [← Array.length_toList, x1.length_eq, Array.length_toList]
    refine wpAny_bind (hg _ _ _ (wpAny_bind (wpAny_storeSet_of k1 rfl (?_ : _) (fits_of_scanBound (by omega)))))
    exact wpAny_pure (hR _ (w1.trans (Heap.SameBut.update _ a _)) ⟨_, es2, _, t3, store_at (es' := es2) (t' := t3) k1 rfl, hex, rfl, fun e he => g1 e (x1.mem_iff.mp he), (x1.map mkOf).nodup_iff.mpr nd, fun k => (x1.map mkOf).mem_iff.trans (m1 k), x2, by omega, x3, hl.imp id fun q => x4.trans q⟩)
  · exact wpAny_pure (hR _ w1 ⟨_, es1, _, t2, k1, hex, rfl, g1, nd, m1, hf, hn, hr, hl⟩)
theorem setMx_add {S : Key → Prop} {n : Nat} {k : Key} {u : Value} {Q : Bool → Shared → Prop} (hk : keyIs k u = true) (R : SetMx w s.heap a S n) (room : n + 1 < scanBound)
    (hQ : ∀ b h1, Heap.SameBut a s.heap h1 → SetMx w h1 a (fun j => S j ∨ j = k) (n + 1) → Q b { s with heap := h1 }) : wpAny (model P w) A (setAddHashed a u (keyH w k)) Q E s := by
  obtain ⟨o, es, ep, t, ho, hex, hd, g, nd, hm, hf, hn, hr, hl⟩ := R
  have hkey : (mixKind P w).is k u = true := hk
  have hsc : u.scannable = true := by rcases keyIs_shape hk with ⟨i, t, rfl, rfl⟩ | ⟨x, t, rfl, rfl⟩ <;> rfl
  have hb : es.size < scanBound := by omega
  have hel : ElemsOf (mixKind P w) es.toList := itemM_els g
  unfold setAddHashed setAddHashedIn; refine wpAny_holding (wpAny_bind (wpAny_setState_of ho hd hf ?_)); dsimp only
  rw [byScan_of hsc hb hel]; simp only [↓reduceIte]; unfold setAddByScan
  refine wpAny_bind (?_ : _); refine wpAny_bind (wpAny_rule (wpAny_bind (wpAny_setScan_of (knd := mixKind P w) hkey ho hd hf hel ?_)))
  cases hfi : List.findIdx? (fun e => (mixKind P w).is k e.2) es.toList with
  | some j =>
    obtain ⟨hj, pj, _⟩ := List.findIdx?_eq_some_iff_getElem.mp hfi
    have hin : S k := (hm k).1 (List.mem_map.mpr ⟨_, List.getElem_mem hj, (itemM_is (g _ (List.getElem_mem hj)) k).1 pj⟩)
    refine wpAny_pure (wpAny_pure (hQ _ s.heap (Heap.SameBut.refl a s.heap) ⟨o, es, ep, t, ho, hex, hd, g, nd, fun i => (hm i).trans ⟨.inl, fun z => z.elim id fun e => e ▸ hin⟩, hf, by omega, hr, hl⟩))
  | none =>
    have hout : k ∉ es.toList.map mkOf := fun z => by
      obtain ⟨e, he, q⟩ := List.mem_map.mp z
      have c := List.findIdx?_eq_none_iff.mp hfi e he
      rw [show (mixKind P w).is k e.2 = true from (itemM_is (g e he) k).2 q] at c
      cases c
    have gw : ∀ (b : Bool) {s1 : Shared} {Q1 : Unit → Shared → Prop}, Q1 () s1 → wpAny (model P w) A (match b with | true => rule "set.scan.the-table-gave-way" | false => pure ()) Q1 E s1 := fun b s1 Q1 q => by
      cases b <;> first | exact wpAny_pure q | exact wpAny_rule q
    have x1 := layNew_perm t es (keyH w k) u; have x2 := layNew_fits t es (keyH w k) u; have x3 := layNew_ris t es (keyH w k) u hr; have x4 := layNew_led t es (keyH w k) u
    dsimp only
    generalize layNew t es (keyH w k) u = z at x1 x2 x3 x4 ⊢; obtain ⟨es1, t1, wd, gave⟩ := z; dsimp only at x1 x2 x3 x4 ⊢
    rw [Array.toList_push] at x1
    have pc : es1.toList.Perm ((keyH w k, u) :: es.toList) := x1.trans (List.perm_append_singleton _ _)
    obtain ⟨ek, gk⟩ := itemM_mk (w := w) hk
    have pk : (es1.toList.map mkOf).Perm (k :: es.toList.map mkOf) := by
      have := pc.map mkOf
      rwa [List.map_cons, ek] at this
    have g1 : ∀ e ∈ es1.toList, ItemM w e := fun e he => (List.mem_cons.mp (pc.mem_iff.mp he)).elim (fun z => z ▸ gk) (g e)
    have nd1 : (es1.toList.map mkOf).Nodup := pk.nodup_iff.mpr (List.nodup_cons.mpr ⟨hout, nd⟩)
    have m1 : ∀ i, i ∈ es1.toList.map mkOf ↔ S i ∨ i = k := fun i => by rw [pk.mem_iff, List.mem_cons, hm i]; exact Or.comm
    have sz : es1.size = es.size + 1 := by rw [← Array.length_toList, pc.length_eq, List.length_cons, Array.length_toList]
    have led1 : w.params.followText "set-order" = true ∨ t1.led = true := hl.imp id fun q => x4.trans q
    refine wpAny_bind (gw _ ?_); split
    · refine wpAny_bind ?_; rw [hashByValue_scannable 8 hsc]
      refine wpAny_pure (laid_tail (fun b s1 Q1 q => by cases b <;> first | exact wpAny_pure q | exact wpAny_rule q) ho hex hd g1 nd1 m1 (by omega) room ?_ ?_ ?_ fun h1 sb r => ?_)
      · first | (split <;> first | exact x2 | exact SetTable.fits_plain_off x2) | exact x2
      · first | (split <;> exact x3) | exact x3
      · first | (split <;> exact led1) | exact led1
      · dsimp only; exact wpAny_pure (hQ _ h1 sb r)
    · refine wpAny_bind (wpAny_pure ?_); simp only [↓reduceIte]
      exact laid_tail (fun b s1 Q1 q => by cases b <;> first | exact wpAny_pure q | exact wpAny_rule q) ho hex hd g1 nd1 m1 (by omega) room x2 x3 led1 fun h1 sb r => by dsimp only; exact wpAny_pure (hQ _ h1 sb r)
end
end L3
namespace L3
open PySem PySem.Spec PyProof.Rows L2
/-! ### set(xs) of whole numbers and texts -/
abbrev frO (w : World) : Obj := { cls := .type "set", dict := none, data := .set #[] 0 (.fresh 0 0 (!w.params.followText "set-order")) }
theorem setMx_new {w : World} {h : Heap} {a : Addr} {S : Key → Prop} (ho : h.get? a = some (frO w)) (hS : ∀ k, ¬ S k) : SetMx w h a S 0 :=
  ⟨_, #[], 0, _, ho, ⟨rfl, rfl, rfl⟩, rfl, (fun e he => by simp at he), (by simp), (fun k => ⟨fun z => by simp at z, fun z => absurd z (hS k)⟩), (by rfl), Nat.le_refl _, List.Pairwise.nil, by
    show _ ∨ (!w.params.followText "set-order") = true
    cases w.params.followText "set-order" <;> simp⟩
section
variable {P : Program} {w : World} {A : Around} {E : Value → Shared → Prop} {s : Shared} {R : Result → Shared → Prop} {I : Addr} {fp wr : List Addr} {G : Array GenState → Array GenState → Prop} {n : Nat} {Pv : Nat → Value → Prop} {St : Nat → Shared → Prop}
theorem set_loop (W : WalksS P w A.in1 I fp wr G n Pv St) (S : Addr) (hSf : S ∉ fp) (ks : List Key) (hlen : ks.length = n) (hb : n + 1 < scanBound) (hval : ∀ i v, Pv i v → ∃ k, ks[i]? = some k ∧ keyIs k v = true) :
    ∀ (r i : Nat) (s : Shared), n - i = r → i ≤ n → St i s → SetMx w s.heap S (fun k => k ∈ ks.take i) i →
      (∀ s1, Moved (S :: wr) G s s1 → SetMx w s1.heap S (fun k => k ∈ ks) n → R (.ok (.ret .none)) s1) → codeAny (model P w) A (.builtin "set.update.loop" ⟨[.ref S, .ref I], []⟩) R s := by
  have hSw : S ∉ wr := fun h => hSf (W.sub _ h)
  have sub : ∀ c ∈ wr, c ∈ S :: wr := fun c hc => List.mem_cons_of_mem _ hc
  intro r
  induction r with
  | zero =>
    intro i s hr hi hst hS hR
    obtain rfl : i = n := by omega
    refine codeAny_builtin PyProof.Rows.F.entry_set_update_loop (?_ : _); rw [Around.under_plainId PyProof.Rows.F.plain_set_update_loop _]
    show wpAny _ A.in1 (pyNext (.ref I) >>= _) _ _ s
    refine wpAny_bind (W.done s _ _ hst fun s1 hm => wpAny_pure (hR s1 (hm.mono sub) ?_))
    have := hS.at fun o e => hm.heap S o hSw e
    rwa [List.take_of_length_le (by omega)] at this
  | succ r ih =>
    intro i s hr hi hst hS hR
    have lt : i < n := by omega
    refine codeAny_builtin PyProof.Rows.F.entry_set_update_loop (?_ : _); rw [Around.under_plainId PyProof.Rows.F.plain_set_update_loop _]
    show wpAny _ A.in1 (pyNext (.ref I) >>= _) _ _ s
    refine wpAny_bind (W.item i s _ _ lt hst fun v s1 hP hst1 hm => ?_); obtain ⟨k, ek, kv⟩ := hval i v hP
    have hS1 := hS.at fun o e => hm.heap S o hSw e
    show wpAny _ A.in1 (holding [v] (setAdd S v) >>= _) _ _ s1
    refine wpAny_bind (wpAny_holding (?_ : _)); unfold setAdd; refine wpAny_holding (wpAny_bind ((mixKind P w).pyHash (k := k) kv ?_))
    refine setMx_add (s := { s1 with toks := s1.toks + 1 }) kv hS1 (by omega) fun b h1 sb hS2 => ?_
    have hS3 : SetMx w h1 S (fun k => k ∈ ks.take (i + 1)) (i + 1) := hS2.congr fun j => by
      rw [List.take_add_one, ek]
      simp
    have oth : ∀ c o, c ≠ S → s1.heap.get? c = some o → h1.get? c = some o := fun c o hc e => (sb.2 c hc).trans e
    refine wpAny_pure ⟨plainId_quiet PyProof.Rows.F.plain_set_update_loop _, ih (i + 1) _ (by omega) lt (W.frame _ s1 _ _ hst1 (Nat.le_succ _) fun c hc o e => oth c o (fun h => hSf (h ▸ hc)) e) hS3 fun s2 hm2 hS4 => hR s2 (Moved.trans W.gtrans ((hm.mono sub).then_heap (Nat.le_succ _) fun c o hc e => oth c o (fun h => hc (h ▸ List.mem_cons_self)) e) hm2) hS4⟩
theorem call_setMx_list {l : Addr} {its : Array Value} (ks : List Key) {Q : Value → Shared → Prop} (hh : A.handled = none) (hl : s.heap.IsList l its) (hk : ∀ (i : Nat) (v : Value), its[i]? = some v → ∃ k, ks[i]? = some k ∧ keyIs k v = true) (hz : ks.length = its.size) (hb : its.size + 1 < scanBound)
    (h : ∀ (h1 : Heap) (tk : Nat), SetMx w h1 s.heap.objs.size (fun k => k ∈ ks) its.size → (∀ b o, s.heap.get? b = some o → h1.get? b = some o) → Q (.ref s.heap.objs.size) { s with heap := h1, toks := tk }) :
    wpAny (model P w) A (call (.type "set") [.ref l]) Q E s := by
  obtain ⟨c, tl, hmro⟩ := F.called_set.mro; have hmade := F.called_set.made; have hsub := F.called_set.sub
  refine wpAny_call (codeAny_of_tree (?_ : _)); show wpAny _ _ (callAny (.type "set") _) _ _ _
  refine wpAny_pure ⟨Code.quiet_builtin _ (by decide +kernel), codeAny_builtin F.entry_type_call (?_ : _)⟩; rw [Around.under_plain (weight_type_call_type "set" [.ref l] []) rfl]
  have u1 := F.called_set.notType; have u2 := F.called_set.canCreate; have u3 := F.typeCall_set_1 (.ref l)
  repeat (any_goals (first | wp_step | assumption))
  refine codeAny_mono (code_set_led1 (.ref l) (E := E) (Q₁ := fun ob s1 => ob = .ref s.heap.objs.size ∧ s1 = { s with heap := s.heap.push (frO w) }) ⟨rfl, rfl⟩) fun r s1 hr => ?_
  cases r with
  | error e => exact hr
  | ok fl =>
    cases fl with
    | next => exact hr.elim
    | brk => exact hr.elim
    | cont => exact hr.elim
    | ret ob =>
      obtain ⟨rfl, rfl⟩ := hr
      have gS : (s.heap.push (frO w)).get? s.heap.objs.size = some (frO w) := Heap.get?_push_size _ rfl
      have tS : Shared.TypeIs { s with heap := s.heap.push (frO w) } (.ref s.heap.objs.size) "set" := ⟨_, gS, rfl⟩
      have u4 := F.called_set.init.lookup; have u5 := F.called_set.init.bind (.ref s.heap.objs.size)
      repeat (any_goals (first | wp_step | assumption))
      refine codeAny_mono (codeAny_call_builtin (R := wants (fun r s2 => r = .none ∧ ∃ h1 tk, s2 = { s with heap := h1, toks := tk } ∧ SetMx w h1 s.heap.objs.size (fun k => k ∈ ks) its.size ∧ (∀ b o, s.heap.get? b = some o → h1.get? b = some o)) E) F.called_set.init.plain F.entry_set_init (check_set_init_1 tS ?_)) fun r2 s2 hr2 => ?_
      · obtain ⟨⟨ocls, odict, odata, oslots⟩, hol, hcl, nl, hdl⟩ := hl
        simp only at hcl hdl; subst hcl; subst hdl
        have hol1 : (s.heap.push (frO w)).get? l = some { cls := .type "list", dict := odict, data := .seq its nl, slots := oslots } := Heap.get?_push_of_some _ hol
        have u6 := F.sub_list_set; have u7 := F.sub_list_frozenset; have u8 : (Value.type "list" == Value.type "dict") = false := by decide
        have hl1 : (s.heap.push (frO w)).IsList l its := ⟨_, hol1, rfl, nl, rfl⟩
        unfold Builtin.«set.__init__» noKeywords Builtin.Frozenset.updateFrom; generalize hPI : pyIter = PI
        wp_walk
        subst hPI; refine wpAny_pyIter_list hl1 (wpAny_bind (wpAny_runValue ?_))
        have lS : l < s.heap.objs.size := Heap.lt_size hol
        have hh3 : A.in1.in1.in1.handled = none := hh
        have zp : (s.heap.push (frO w)).objs.size = s.heap.objs.size + 1 := Heap.size_push ..
        have nI : l ≠ (s.heap.push (frO w)).objs.size := Nat.ne_of_lt (zp ▸ Nat.lt_succ_of_lt lS)
        have n0 : s.heap.objs.size ≠ (s.heap.push (frO w)).objs.size := Nat.ne_of_lt (zp ▸ Nat.lt_succ_self _)
        have nS : s.heap.objs.size ∉ [(s.heap.push (frO w)).objs.size, l] := fun z => by
          rcases List.mem_cons.mp z with z | z
          · exact n0 z
          · exact Nat.ne_of_gt lS (List.mem_singleton.mp z)
        refine set_loop ((Walks.list hh3 _ l nI its).toS) s.heap.objs.size nS ks hz hb hk (its.size - 0) 0 _ (by omega) (Nat.zero_le _) ⟨⟨_, Heap.get?_push_size _ rfl, rfl, rfl⟩, (hl1.push _)⟩ (setMx_new (Heap.get?_push_of_some _ gS) fun k z => by simp at z) fun s3 hm hS3 => ?_
        obtain ⟨h1, g3, d3, tk3, os3⟩ := s3; have e1 : g3 = s.gens := hm.gens; have e2 : d3 = s.drawn := hm.drawn; have e3 : os3 = s.os := hm.os
        subst e1; subst e2; subst e3
        show wpAny _ _ _ _ _ _
        refine wpAny_pure (?_ : _); show wpAny _ _ (ret Value.none) _ _ _
        refine wpAny_pure ⟨rfl, h1, tk3, rfl, hS3, fun b o e => hm.heap b o (fun z => ?_) (Heap.get?_push_of_some _ (Heap.get?_push_of_some _ e))⟩
        have lb := Heap.lt_size e
        rcases List.mem_cons.mp z with z | z
        · exact Nat.ne_of_lt lb z
        · exact Nat.ne_of_lt (Nat.lt_succ_of_lt lb) ((List.mem_singleton.mp z).trans zp)
      · cases r2 with
        | error e => exact hr2
        | ok fl2 =>
          cases fl2 with
          | next => exact hr2.elim
          | brk => exact hr2.elim
          | cont => exact hr2.elim
          | ret r =>
            obtain ⟨rfl, h1, tk, rfl, hS3, k3⟩ := hr2
            repeat (any_goals (first | wp_step | assumption))
            exact h _ _ hS3 k3
theorem call_setMx_tup {l : Addr} {its : Array Value} (ks : List Key) {Q : Value → Shared → Prop} (hh : A.handled = none) (hl : s.heap.IsTuple l its) (hk : ∀ (i : Nat) (v : Value), its[i]? = some v → ∃ k, ks[i]? = some k ∧ keyIs k v = true) (hz : ks.length = its.size) (hb : its.size + 1 < scanBound)
    (h : ∀ (h1 : Heap) (tk : Nat), SetMx w h1 s.heap.objs.size (fun k => k ∈ ks) its.size → (∀ b o, s.heap.get? b = some o → h1.get? b = some o) → Q (.ref s.heap.objs.size) { s with heap := h1, toks := tk }) :
    wpAny (model P w) A (call (.type "set") [.ref l]) Q E s := by
  obtain ⟨c, tl, hmro⟩ := F.called_set.mro; have hmade := F.called_set.made; have hsub := F.called_set.sub
  refine wpAny_call (codeAny_of_tree (?_ : _)); show wpAny _ _ (callAny (.type "set") _) _ _ _
  refine wpAny_pure ⟨Code.quiet_builtin _ (by decide +kernel), codeAny_builtin F.entry_type_call (?_ : _)⟩; rw [Around.under_plain (weight_type_call_type "set" [.ref l] []) rfl]
  have u1 := F.called_set.notType; have u2 := F.called_set.canCreate; have u3 := F.typeCall_set_1 (.ref l)
  repeat (any_goals (first | wp_step | assumption))
  refine codeAny_mono (code_set_led1 (.ref l) (E := E) (Q₁ := fun ob s1 => ob = .ref s.heap.objs.size ∧ s1 = { s with heap := s.heap.push (frO w) }) ⟨rfl, rfl⟩) fun r s1 hr => ?_
  cases r with
  | error e => exact hr
  | ok fl =>
    cases fl with
    | next => exact hr.elim
    | brk => exact hr.elim
    | cont => exact hr.elim
    | ret ob =>
      obtain ⟨rfl, rfl⟩ := hr
      have gS : (s.heap.push (frO w)).get? s.heap.objs.size = some (frO w) := Heap.get?_push_size _ rfl
      have tS : Shared.TypeIs { s with heap := s.heap.push (frO w) } (.ref s.heap.objs.size) "set" := ⟨_, gS, rfl⟩
      have u4 := F.called_set.init.lookup; have u5 := F.called_set.init.bind (.ref s.heap.objs.size)
      repeat (any_goals (first | wp_step | assumption))
      refine codeAny_mono (codeAny_call_builtin (R := wants (fun r s2 => r = .none ∧ ∃ h1 tk, s2 = { s with heap := h1, toks := tk } ∧ SetMx w h1 s.heap.objs.size (fun k => k ∈ ks) its.size ∧ (∀ b o, s.heap.get? b = some o → h1.get? b = some o)) E) F.called_set.init.plain F.entry_set_init (check_set_init_1 tS ?_)) fun r2 s2 hr2 => ?_
      · obtain ⟨⟨ocls, odict, odata, oslots⟩, hol, hcl, nl, hdl⟩ := hl
        simp only at hcl hdl; subst hcl; subst hdl
        have hol1 : (s.heap.push (frO w)).get? l = some { cls := .type "tuple", dict := odict, data := .seq its nl, slots := oslots } := Heap.get?_push_of_some _ hol
        have u6 := F.sub_tuple_set; have u7 := F.sub_tuple_frozenset; have u8 : (Value.type "tuple" == Value.type "dict") = false := by decide
        have hl1 : (s.heap.push (frO w)).IsTuple l its := ⟨_, hol1, rfl, nl, rfl⟩
        unfold Builtin.«set.__init__» noKeywords Builtin.Frozenset.updateFrom; generalize hPI : pyIter = PI
        wp_walk
        subst hPI; refine wpAny_pyIter_tuple hl1 (wpAny_bind (wpAny_runValue ?_))
        have lS : l < s.heap.objs.size := Heap.lt_size hol
        have hh3 : A.in1.in1.in1.handled = none := hh
        have zp : (s.heap.push (frO w)).objs.size = s.heap.objs.size + 1 := Heap.size_push ..
        have nI : l ≠ (s.heap.push (frO w)).objs.size := Nat.ne_of_lt (zp ▸ Nat.lt_succ_of_lt lS)
        have n0 : s.heap.objs.size ≠ (s.heap.push (frO w)).objs.size := Nat.ne_of_lt (zp ▸ Nat.lt_succ_self _)
        have nS : s.heap.objs.size ∉ [(s.heap.push (frO w)).objs.size, l] := fun z => by
          rcases List.mem_cons.mp z with z | z
          · exact n0 z
          · exact Nat.ne_of_gt lS (List.mem_singleton.mp z)
        refine set_loop ((Walks.tuple hh3 _ l nI its).toS) s.heap.objs.size nS ks hz hb hk (its.size - 0) 0 _ (by omega) (Nat.zero_le _) ⟨⟨_, Heap.get?_push_size _ rfl, rfl, rfl⟩, (hl1.push _)⟩ (setMx_new (Heap.get?_push_of_some _ gS) fun k z => by simp at z) fun s3 hm hS3 => ?_
        obtain ⟨h1, g3, d3, tk3, os3⟩ := s3; have e1 : g3 = s.gens := hm.gens; have e2 : d3 = s.drawn := hm.drawn; have e3 : os3 = s.os := hm.os
        subst e1; subst e2; subst e3
        show wpAny _ _ _ _ _ _
        refine wpAny_pure (?_ : _); show wpAny _ _ (ret Value.none) _ _ _
        refine wpAny_pure ⟨rfl, h1, tk3, rfl, hS3, fun b o e => hm.heap b o (fun z => ?_) (Heap.get?_push_of_some _ (Heap.get?_push_of_some _ e))⟩
        have lb := Heap.lt_size e
        rcases List.mem_cons.mp z with z | z
        · exact Nat.ne_of_lt lb z
        · exact Nat.ne_of_lt (Nat.lt_succ_of_lt lb) ((List.mem_singleton.mp z).trans zp)
      · cases r2 with
        | error e => exact hr2
        | ok fl2 =>
          cases fl2 with
          | next => exact hr2.elim
          | brk => exact hr2.elim
          | cont => exact hr2.elim
          | ret r =>
            obtain ⟨rfl, h1, tk, rfl, hS3, k3⟩ := hr2
            repeat (any_goals (first | wp_step | assumption))
            exact h _ _ hS3 k3
end
end L3
namespace L3
open PySem PySem.Spec PyProof.Rows L2
/-! ### sorted(set(xs)) of whole numbers or of texts -/
def keyDD : Key → D
  | .inl i => .int i
  | .inr x => .str x
theorem keyDD_rep {K : PySem.W.Frag} {H : Hp} (k : Key) : Rep K H (kV k) (keyDD k) := by
  cases k with
  | inl i => exact .int i
  | inr x => exact .str x
theorem keyDD_reps {K : PySem.W.Frag} {H : Hp} : ∀ ks : List Key, RepL K H (ks.map kV) (ks.map keyDD)
  | [] => .nil
  | k :: ks => .cons (keyDD_rep k) (keyDD_reps ks)
theorem reps_keyDD {K : PySem.W.Frag} {H : Hp} : ∀ {vs : List V} {ks : List Key}, RepL K H vs (ks.map keyDD) → vs = ks.map kV
  | _, [], h => by cases h; rfl
  | _, k :: ks, h => by
    cases h with
    | cons r t =>
      rw [List.map_cons, ← reps_keyDD t]
      cases k with
      | inl i => cases r; rfl
      | inr x => cases r; rfl
/-- the keys in their order -/
def srtK (ks : List Key) : List Key := ks.mergeSort (PySem.W.dataLe false keyPy)
section
variable {P : Program} {w : World} {A : Around} {E : Value → Shared → Prop} {s : Shared} {a : Addr}
theorem key_reads {h : Heap} {k : Key} {v : Value} (r : keyIs k v = true) : Reads h v (keyPy k) [] := by
  rcases keyIs_shape r with ⟨i, t, rfl, rfl⟩ | ⟨x, t, rfl, rfl⟩
  · exact .int i t
  · exact .str x t
theorem key_depth (k : Key) : (keyPy k).depth = 0 := by cases k <;> rfl
def keyV (v : Value) : Key := mkOf (0, v)
theorem each_keys : ∀ {vs : List Value}, (∀ v ∈ vs, keyIs (keyV v) v = true) → PySem.W.EachIs (fun v k => keyIs k v = true) vs (vs.map keyV)
  | [], _ => .nil
  | v :: vs, h => .cons (h v List.mem_cons_self) (each_keys fun u hu => h u (List.mem_cons_of_mem _ hu))
theorem each_mono {α β : Type} {R T : α → β → Prop} (f : ∀ x y, R x y → T x y) : ∀ {xs : List α} {ys : List β}, PySem.W.EachIs R xs ys → PySem.W.EachIs T xs ys
  | _, _, .nil => .nil
  | _, _, .cons h r => .cons (f _ _ h) (each_mono f r)
theorem vals_keys : ∀ {vs : List Value} {ks : List Key}, PySem.W.EachIs (fun v k => keyIs k v = true) vs ks → Vals (ks.map kV) vs
  | _, _, .nil => .nil
  | _, _, .cons h r => .cons (keyIs_rel h) (vals_keys r)
theorem sorted_setMx {S : Key → Prop} {n : Nat} {Q : Value → Shared → Prop} (R : SetMx w s.heap a S n) (hh : A.handled = none) (hn : n < scanBound) (hz : n ≤ sizeLine) (al : ∀ ks : List Key, (∀ k ∈ ks, S k) → PySem.W.AllAlike (ks.map keyPy) ∧ PySem.W.Sortable (ks.map keyPy)) (hu : A.units + 3 < cLine)
    (hQ : ∀ s1 p (out : List Value) (c : Nat) (ks : List Key), (∀ b o, s.heap.get? b = some o → s1.heap.get? b = some o) → s1.gens = s.gens → s1.os = s.os → s.heap.objs.size ≤ p → s1.heap.get? p = some (seqObj "list" out.toArray c) →
      PySem.W.EachIs (fun v k => keyIs k v = true) out (srtK ks) → ks.Nodup → (∀ k, k ∈ ks ↔ S k) → ks.length ≤ n → Q (.ref p) s1) : wpAny (model P w) A (call (.builtin "sorted") [.ref a]) Q E s := by
  obtain ⟨o, es, ep, t, ho, hex, hd, g, nd, hm, hf, hsz, hr, hl⟩ := R
  refine Calls.call_function_entry kind_sorted plain_sorted entry_sorted (args_sorted1 _) (?_ : _); unfold Builtin.«sorted»
  refine wpAny_bind (m := checkCount "sorted" 1 1 _) (wpAny_pure (wpAny_bind (collect_set (A := A.in1) hh ⟨o, ho, hex.1, hd⟩ hf (by omega) hr hl fun s1 vs k1 z1 g1 o1 pm => ?_)))
  have lv : vs.length = es.size := by rw [pm.length_eq, List.length_map, Array.length_toList]
  have own : ∀ v ∈ vs, keyIs (keyV v) v = true := fun v hv => by
    obtain ⟨e, he, rfl⟩ := List.mem_map.mp (pm.mem_iff.mp hv)
    exact (g e he).1
  have pk : (vs.map keyV).Perm (es.toList.map mkOf) := by
    have q := pm.map keyV
    rw [List.map_map] at q
    exact q
  have hin : ∀ k, k ∈ vs.map keyV ↔ S k := fun k => pk.mem_iff.trans (hm k)
  obtain ⟨al1, so1⟩ := al (vs.map keyV) fun k hk => (hin k).1 hk
  have ek := each_keys own
  refine wpAny_bind (wpAny_newList (?_ : _) (by omega))
  have hoL : (s1.heap.push (seqObj "list" vs.toArray 0)).get? s1.heap.objs.size = some (seqObj "list" vs.toArray 0) := Heap.get?_push_size _ rfl
  refine wpAny_bind (wpAny_holding (PySem.W.list_sort_data (enc := keyPy) (R := fun v k => keyIs k v = true) hoL ek (each_mono (fun v k h => ⟨[], key_reads h, by simp⟩) ek) al1 so1 (by rw [List.length_map]; omega) (fun k _ => ?_) fun out ho2 he => ?_))
  · rw [key_depth]
    show A.units + 1 + 1 + 0 < cLine
    omega
  · obtain ⟨c, hc⟩ := sortedHeap_at (vs := vs) (out := out.toArray) hoL
    refine wpAny_pure ⟨_, rfl, hQ _ s1.heap.objs.size out c (vs.map keyV) (fun b u e => ?_) g1 o1 z1 hc he (pk.nodup_iff.mpr nd) hin (by rw [List.length_map]; omega)⟩
    have q := k1 b u e
    have lt := Heap.lt_size q
    show (sortedHeap (s1.heap.push (seqObj "list" vs.toArray 0)) s1.heap.objs.size vs out.toArray).get? b = some u
    rw [sortedHeap_old (Nat.ne_of_lt lt) (by rw [size_push']; exact Nat.lt_succ_of_lt lt)]
    exact Heap.get?_push_of_some _ q
end
end L3
namespace L3
open PySem PySem.Spec PyProof.Rows L2
def SetMO (w : World) (a : Addr) (S : Key → Prop) (n : Nat) : HO := .ext fun h => SetMx w h a S n
theorem setMO_new {P : Program} {w : World} {H : Hp} {h : Heap} {a : Addr} {S : Key → Prop} {n : Nat} (R : SetMx w h a S n) : ObjOk P w H h a (SetMO w a S n) :=
  ⟨R, R.elim fun o ⟨_, _, _, e, _⟩ => ⟨o, e⟩, fun _ _ q k => SetMx.at q k⟩
def rSetMx (K : PySem.W.Frag) (w : World) : List V → Hp → VK → Prop := fun xs H Q => ∃ (l : Addr) (ks : List Key), xs = [.ref l] ∧ (SqL K H l (ks.map kV) ∨ SqT K H l (ks.map kV)) ∧ ks.length ≤ 4000 ∧ ∀ p, H p = none → Q (.ref p) (upd H p (SetMO w p (fun k => k ∈ ks) ks.length))
theorem keyIs_of {k : Key} {u : Value} (r : RelV (kV k) u) : keyIs k u = true := by
  cases k with
  | inl i =>
    obtain ⟨t, rfl⟩ := (show ∃ t, u = Value.int i t from r)
    exact keyIs_int i t
  | inr x =>
    obtain ⟨t, rfl⟩ := (show ∃ t, u = Value.str x t from r)
    exact keyIs_str x t
theorem vals_key_at : ∀ {ks : List Key} {its : List Value}, Vals (ks.map kV) its → ∀ (i : Nat) (v : Value), its[i]? = some v → ∃ k, ks[i]? = some k ∧ keyIs k v = true
  | [], _, h, i, v, e => by
    cases h
    simp at e
  | k :: ks, _, h, i, v, e => by
    cases h with
    | cons r t =>
      cases i with
      | zero =>
        obtain rfl := Option.some.inj e
        exact ⟨k, rfl, keyIs_of r⟩
      | succ i => exact vals_key_at t i v e
theorem cr_setMx {X : Cx} (hc : X.calm = true) : CallR X (.type "set") (rSetMx X.K X.w) := by
  intro pins s σ H xs us Q I r h
  obtain ⟨l, ks, rfl, hs, hb, q⟩ := h
  rw [Vals.ref1 r]
  have fin : ∀ (h1 : Heap) (tk m : Nat), m ≤ ks.length → SetMx X.w h1 s.heap.objs.size (fun k => k ∈ ks) m → (∀ b o, s.heap.get? b = some o → h1.get? b = some o) → EP X pins σ Q (.ref s.heap.objs.size) { s with heap := h1, toks := tk } := fun h1 tk m hm R k => by
    have R' : SetMx X.w h1 s.heap.objs.size (fun k => k ∈ ks) ks.length := by
      obtain ⟨o, es, ep, t, a1, a2, a3, a4, a5, a6, a7, a8, a9⟩ := R
      exact ⟨o, es, ep, t, a1, a2, a3, a4, a5, a6, a7, Nat.le_trans a8 hm, a9⟩
    exact ⟨.ref _, upd H s.heap.objs.size (SetMO X.w s.heap.objs.size (fun k => k ∈ ks) ks.length), I.laid (t' := tk) k (Nat.le_refl _) (setMO_new R'), rfl, q _ (I.hok.fresh (Nat.le_refl _))⟩
  rcases hs with hs | hs
  · obtain ⟨its, rv, pl, hz⟩ := I.list hs
    have lz : its.toArray.size = ks.length := by rw [List.size_toArray, ← rv.length, List.length_map]
    exact call_setMx_list (P := X.prog) (w := X.w) ks (I.ok.hd hc) pl.isList (fun i v e => vals_key_at rv i v (by rw [List.getElem?_toArray] at e; exact e)) lz.symm (by rw [lz]; unfold scanBound; omega) fun h1 tk R k => fin h1 tk _ (Nat.le_of_eq lz) R k
  · obtain ⟨its, rv, pl, hz⟩ := I.tuple hs
    have lz : its.toArray.size = ks.length := by rw [List.size_toArray, ← rv.length, List.length_map]
    exact call_setMx_tup (P := X.prog) (w := X.w) ks (I.ok.hd hc) pl (fun i v e => vals_key_at rv i v (by rw [List.getElem?_toArray] at e; exact e)) lz.symm (by rw [lz]; unfold scanBound; omega) fun h1 tk R k => fin h1 tk _ (Nat.le_of_eq lz) R k
/-- the keys are of one kind -/
def OneKind (S : Key → Prop) : Prop := (∀ k, S k → ∃ i, k = .inl i) ∨ (∀ k, S k → ∃ x, k = .inr x)
theorem oneKind_al {S : Key → Prop} (h : OneKind S) (ks : List Key) (hk : ∀ k ∈ ks, S k) : PySem.W.AllAlike (ks.map keyPy) ∧ PySem.W.Sortable (ks.map keyPy) := by
  refine ⟨fun d hd d' hd' => ?_, .inr fun d hd => ?_⟩
  · obtain ⟨k, m, rfl⟩ := List.mem_map.mp hd
    obtain ⟨k', m', rfl⟩ := List.mem_map.mp hd'
    rcases h with h | h
    · obtain ⟨i, rfl⟩ := h k (hk k m)
      obtain ⟨j, rfl⟩ := h k' (hk k' m')
      rfl
    · obtain ⟨i, rfl⟩ := h k (hk k m)
      obtain ⟨j, rfl⟩ := h k' (hk k' m')
      rfl
  · obtain ⟨k, m, rfl⟩ := List.mem_map.mp hd
    cases k <;> exact ⟨(fun z => nomatch z), fun _ z => nomatch z⟩
def rSortMx (w : World) : List V → Hp → VK → Prop := fun xs H Q => ∃ (a : Addr) (S : Key → Prop) (n : Nat), xs = [.ref a] ∧ H a = some (SetMO w a S n) ∧ n ≤ 4000 ∧ OneKind S ∧
  ∀ (ks : List Key) (p : Addr), ks.Nodup → (∀ k, k ∈ ks ↔ S k) → ks.length ≤ n → H p = none → Q (.ref p) (upd H p (.lst ((srtK ks).map kV)))
theorem cr_sortMx {X : Cx} {k : Nat} (hc : X.calm = true) (hr : Room k X.A) : CallR X (.builtin "sorted") (rSortMx X.w) := by
  intro pins s σ H xs us Q I r h
  obtain ⟨a, S, n, rfl, ha, hn, one, q⟩ := h
  have R : SetMx X.w s.heap a S n := (I.hok a _ ha).1
  rw [Vals.ref1 r]
  have hu := hr.units
  have zz : 4000 ≤ sizeLine := by decide
  refine sorted_setMx R (I.ok.hd hc) (by unfold scanBound; omega) (by omega) (oneKind_al one) (by omega) fun s1 p out c ks kp g1 o1 hp hg he nd hm hl => ?_
  have hn2 : H p = none := I.hok.fresh hp
  have vk := vals_keys he
  have lz : ((srtK ks).map kV).length ≤ sizeLine := by
    rw [List.length_map]
    unfold srtK
    rw [List.length_mergeSort]
    omega
  have J : Inv X pins σ (upd H p (.lst ((srtK ks).map kV))) { s with heap := s1.heap, gens := s1.gens, drawn := s1.drawn, toks := s1.toks } :=
    I.call (ch := []) (Un.laid kp hp hn2) (I.hok.laid kp hp ⟨lz, out, c, vk, hg⟩) (by rw [g1]; exact I.bare) (fun _ z => nomatch z)
  have e : s1 = { s with heap := s1.heap, gens := s1.gens, drawn := s1.drawn, toks := s1.toks } := by
    obtain ⟨b1, b2, b3, b4, b5⟩ := s1
    obtain rfl : b5 = s.os := o1
    rfl
  rw [e]
  exact ⟨.ref p, _, J, rfl, q ks p nd hm hl hn2⟩
/-- sorted(set(e)) -/
def wSortSet (we : WE) : WE := fun ρ M Q => we ρ M fun d M1 => ∃ ks : List Key, seqD M1 d = some (ks.map keyDD) ∧ ks.length ≤ 4000 ∧ OneKind (fun k => k ∈ ks) ∧ ∀ us : List Key, us.Nodup → (∀ k, k ∈ us ↔ k ∈ ks) → us.length ≤ ks.length → Q (.lst ((srtK us).map keyDD)) M1
section
variable {X : Cx} {e : Expr} {te : TE} {we : WE} {p p2 pos pos2 : Pos} {k : Nat}
theorem sim_sortSet {K : PySem.W.Frag} {w : World} (h : SimE K te we) : SimE K (tCB (rSortMx w) (tCons (tCB (rSetMx K w) (tCons te tNil)) tNil)) (wSortSet we) := by
  intro Z ρ M σ H Q Q' r hw q0
  refine h Z ρ M σ H _ _ r hw fun v d H1 M1 g r1 ⟨ks, hs, hl, one, z⟩ => ?_
  obtain ⟨l, ys, rfl, hv, rl⟩ := seq_of g.sat r1 hs
  obtain rfl := reps_keyDD rl
  refine ⟨l, ks, rfl, hv, hl, fun p hp => ?_⟩
  obtain ⟨g2, _⟩ := Go.laid (o := SetMO w p (fun k => k ∈ ks) ks.length) g.sat hp
  refine ⟨p, _, _, rfl, upd_same, hl, one, fun us p2 nd hm hlu hp2 => ?_⟩
  obtain ⟨g3, f3⟩ := Go.laid (o := .lst ((srtK us).map kV)) g2.sat hp2
  exact q0 _ _ _ M1 ((g.trans g2).trans g3) (.lst (.inl (.inl f3)) (keyDD_reps _)) (z us nd hm hlu)
theorem de_sortSet (hc : X.calm = true) (hr : Room k X.A) (hm : X.mg "sorted" = none) (hm2 : X.mg "set" = none) (he : DE X e te we) (hg : Gl X "sorted" := by rfl) (hg2 : Gl X "set" := by rfl) (hst : starEach [e] X.env = (false, eval e X.env) :: starEach [] X.env := by rfl) :
    DE X (.Call (.Name "sorted" p) [.Call (.Name "set" p2) [e] [] pos2] [] pos) (tCB (rSortMx X.w) (tCons (tCB (rSetMx X.K X.w) (tCons te tNil)) tNil)) (wSortSet we) :=
  ⟨pe_callB (cr_sortMx hc hr) hg hm (show bootBuiltins "sorted" = some (.builtin "sorted") from rfl) (pa_cons (pe_callTy (cr_setMx hc) hg2 hm2 (show bootBuiltins "set" = some (.type "set") from rfl) (pa_cons he.pe pa_nil hst) (by decide) (by decide) hst rfl) pa_nil) (by decide) (by decide) rfl rfl, sim_sortSet he.sm⟩
end
end L3
namespace L3
open PySem PySem.Spec PyProof.Rows L2
/-! ### boxes of draws: a list of three whole numbers whose numbers nobody asks for -/
end L3
namespace L3
open PySem L2
end L3
namespace L3
open PySem L2
/-! ### sorted(a dict) by whole numbers -/
end L3
namespace L3
open PySem L2
/-! ### zip of a list and a tuple, in any sequence -/
def n2 (xs ys : List V) : Nat := min xs.length ys.length
/-! by data -/
end L3
namespace L3
open PySem L2
/-! ### dict == dict, whose values are plain data -/
/-! ### xs.pop(i) -/
end L3
namespace L3
open PySem L2
/-! ### sorted of pairs (a whole number, anything), the numbers unlike -/
end L3
namespace L3
open PySem L2
/-! ### tuple * int, 1 too -/
end L3
namespace L3
open PySem L2
/-! ### equality of plain data with any texts -/
def fitT : Nat → D → Prop
  | _, .non => True
  | _, .bl _ => True
  | _, .int _ => True
  | _, .str _ => True
  | _, .ty _ => False
  | _, .tok _ => False
  | _, .exc _ _ _ _ _ => False
  | _, .tpl _ => False
  | _, .dct _ _ => False
  | 0, .tup _ => False
  | 0, .lst _ => False
  | n + 1, .tup ds => ∀ d ∈ ds, fitT n d
  | n + 1, .lst ds => ∀ d ∈ ds, fitT n d
mutual
theorem fitT_pl : ∀ (n : Nat) (d : D), fitT n d → d.py.plain = true ∧ d.py.depth ≤ n
  | _, .non, _ => ⟨by simp [D.py, PyData.plain], by simp [D.py, PyData.depth]⟩
  | _, .bl b, _ => ⟨by simp [D.py, PyData.plain], by simp [D.py, PyData.depth]⟩
  | _, .int i, _ => ⟨by simp [D.py, PyData.plain], by simp [D.py, PyData.depth]⟩
  | _, .str x, _ => ⟨by simp [D.py, PyData.plain], by simp [D.py, PyData.depth]⟩
  | _, .ty _, f => by simp [fitT] at f
  | _, .tok _, f => by simp [fitT] at f
  | _, .exc _ _ _ _ _, f => by simp [fitT] at f
  | _, .tpl _, f => by simp [fitT] at f
  | _, .dct _ _, f => by simp [fitT] at f
  | 0, .tup _, f => by cases f
  | 0, .lst _, f => by cases f
  | n + 1, .tup ds, f => by
    have q := fitT_plL n ds f
    exact ⟨by simp [D.py, PyData.plain, q.1], by simp only [D.py, PyData.depth]; omega⟩
  | n + 1, .lst ds, f => by
    have q := fitT_plL n ds f
    exact ⟨by simp [D.py, PyData.plain, q.1], by simp only [D.py, PyData.depth]; omega⟩
theorem fitT_plL : ∀ (n : Nat) (ds : List D), (∀ d ∈ ds, fitT n d) → PyData.plainAll (pyL ds) = true ∧ PyData.depthAll (pyL ds) ≤ n
  | _, [], _ => ⟨by simp [pyL, PyData.plainAll], by simp [pyL, PyData.depthAll]⟩
  | n, d :: ds, f => by
    have q1 := fitT_pl n d (f d List.mem_cons_self)
    have q2 := fitT_plL n ds fun x hx => f x (List.mem_cons_of_mem _ hx)
    exact ⟨by simp [pyL, PyData.plainAll, q1.1, q2.1], by simp only [pyL, PyData.depthAll]; omega⟩
end
end L3
namespace L3
open PySem L2
/-! ### int(x) of an int, a bool, a text of digits -/
def fIntX : FC := fun ds M Q => match ds with
  | [.str a] => ∃ n : Int, PySem.intText? a = some n ∧ a.length ≤ 640 ∧ Q (.int n) M
  | [.int i] => Q (.int i) M
  | [.bl b] => Q (.int (if b then 1 else 0)) M
  | _ => False
def rIntX : List V → Hp → VK → Prop := fun xs H Q => ((∃ i, xs = [.int i] ∧ Q (.int i) H) ∨ ∃ k, xs = [.bl k] ∧ Q (.int (if k then 1 else 0)) H) ∨ ∃ a n, xs = [.str a] ∧ PySem.intText? a = some n ∧ a.length ≤ 640 ∧ Q (.int n) H
theorem call_intX {X : Cx} : CallR X (.type "int") rIntX := call_int1.or call_int_str
theorem sim_intX {K : PySem.W.Frag} : SimC K rIntX fIntX := by
  intro Z xs ds H M Q Q' S r f q
  unfold fIntX at f
  split at f
  · cases r with
    | cons r1 r2 =>
      cases r2
      cases r1
      obtain ⟨n, h1, h2, h3⟩ := f
      exact .inr ⟨_, n, rfl, h1, h2, q _ _ H M (Go.refl S) (.int _) h3⟩
  · cases r with
    | cons r1 r2 =>
      cases r2
      cases r1
      exact .inl (.inl ⟨_, rfl, q _ _ H M (Go.refl S) (.int _) f⟩)
  · cases r with
    | cons r1 r2 =>
      cases r2
      cases r1
      exact .inl (.inr ⟨_, rfl, q _ _ H M (Go.refl S) (.int _) f⟩)
  · exact f.elim
/-! ### xs[::-1] of a list -/
section
variable {X : Cx} {e : Expr} {te : TE} {we : WE} {k : Nat} {p1 p2 p3 pos : Pos}
def wRev (we : WE) : WE := fun ρ M Q => we ρ M fun d M1 => ∃ ds, (∃ a, d = .tok a ∨ d = .lst ds) ∧ seqD M1 d = some ds ∧ Q (.lst ds.reverse) M1
theorem rep_rev {K : PySem.W.Frag} {H : Hp} : ∀ {vs : List V} {ds : List D}, RepL K H vs ds → RepL K H vs.reverse ds.reverse
  | _, _, .nil => .nil
  | _, _, .cons r1 r2 => by
    rw [List.reverse_cons, List.reverse_cons]
    exact (rep_rev r2).app (.cons r1 .nil)
theorem de_rev (he : DE X e te we) : DE X (.Subscript e (.Slice none none (some (.UnaryOp .USub (.Constant (.int 1) k p1) p2)) p3) pos) (tRevL X.K te) (wRev we) :=
  ⟨pe_revL he.pe, fun Z ρ M σ H Q Q' s h q => he.sm _ _ _ _ _ _ _ s h fun x d H1 M1 g1 r1 h1 => by
    obtain ⟨ds, hd, hs, z⟩ := h1
    obtain ⟨a, vs, rfl, ha, rl⟩ := lst_of g1.sat r1 hd hs
    refine ⟨a, vs, rfl, ha, fun p hp => ?_⟩
    obtain ⟨g4, n⟩ := Go.laid (o := .lst vs.reverse) g1.sat hp
    exact q _ _ _ _ (g1.trans g4) (.lst (.inl (.inl n)) ((rep_rev rl).up g4.ex)) z⟩
end
/-! ### f-strings -/
section
variable {X : Cx} {e v1 v2 : Expr} {rest : List Expr} {te : TE} {we : WE} {pos : Pos}
def wFmt (we : WE) : WE := fun ρ M Q => we ρ M fun d M1 => match d with
  | .str y => y.length ≤ sizeLine ∧ Q (.str y) M1
  | .int i => i.natAbs.log2 < 1920 ∧ Q (.str (toString i)) M1
  | _ => False
theorem de_fmt (he : DE X e te we) : DE X (.FormattedValue e (-1) none pos) (tFmt te) (wFmt we) :=
  ⟨pe_fmt he.pe, fun Z ρ M σ H Q Q' s h q => he.sm _ _ _ _ _ _ _ s h fun x d H1 M1 g1 r1 h1 => by
    cases d with
    | str y =>
      cases r1
      exact .inl ⟨y, rfl, h1.1, q _ _ _ _ g1 (.str _) h1.2⟩
    | int i =>
      cases r1
      exact .inr ⟨i, rfl, h1.1, q _ _ _ _ g1 (.str _) h1.2⟩
    | _ => exact h1.elim⟩
def wJs : List WE → Str → WE
  | [], acc => fun _ M Q => Q (.str acc) M
  | w :: ws, acc => fun ρ M Q => w ρ M fun d M1 => match d with
    | .str y => (acc ++ y).length ≤ sizeLine ∧ wJs ws (acc ++ y) ρ M1 Q
    | _ => False
inductive DJ (X : Cx) : List Expr → List TE → List WE → Prop where
  | nil : DJ X [] [] []
  | cons {e : Expr} {t : TE} {w : WE} {es : List Expr} {ts : List TE} {ws : List WE} (h : DE X e t w) (r : DJ X es ts ws) : DJ X (e :: es) (t :: ts) (w :: ws)
theorem DJ.pj {es : List Expr} {ts : List TE} {ws : List WE} (h : DJ X es ts ws) : PJ X es ts := by
  induction h with
  | nil => exact .nil
  | cons h _ ih => exact .cons h.pe ih
theorem sim_js {es : List Expr} {ts : List TE} {ws : List WE} (h : DJ X es ts ws) : ∀ acc : Str, SimE X.K (fun σ H Q => tJs ts acc σ H fun out H1 => Q (.str out) H1) (wJs ws acc) := by
  induction h with
  | nil => exact fun acc Z ρ M σ H Q Q' s h q => q _ _ _ _ (Go.refl s.sat) (.str _) h
  | @cons e t w es ts ws he r ih =>
    intro acc Z ρ M σ H Q Q' s h q
    refine he.sm _ _ _ _ _ _ _ s h fun x d H1 M1 g1 r1 h1 => ?_
    cases d with
    | str y =>
      cases r1
      exact ⟨y, rfl, h1.1, ih (acc ++ y) _ _ _ _ _ _ _ (s.go g1) h1.2 fun v d H2 M2 g2 r2 h2 => q v d H2 M2 (g1.trans g2) r2 h2⟩
    | _ => exact h1.elim
theorem de_joined {ts : List TE} {ws : List WE} (h : DJ X (v1 :: v2 :: rest) ts ws) : DE X (.JoinedStr (v1 :: v2 :: rest) pos) (fun σ H Q => tJs ts Str.empty σ H fun out H1 => Q (.str out) H1) (wJs ws Str.empty) := ⟨pe_joined h.pj, sim_js h Str.empty⟩
end
/-! ### a constant of the module that is a number or a text -/
theorem de_globS {X : Cx} {pos : Pos} {x : Str} {v : V} {d : D} (hg : Gl X x) (hm : ∃ u : Value, X.mg x = some u ∧ RelV v u) (h : ∀ H, Rep X.K H v d) (hd : (x == ("__debug__" : Str)) = false := by decide) : DE X (.Name x pos) (tC v) (wC d) := by
  obtain ⟨u, e, r⟩ := hm
  exact de_glob hg e r h hd
end L3
set_option maxHeartbeats 0
namespace K58
open PySem L2 L3
open PyProof.Rows (envOfC)
def top (i : Nat) : Stmt := PySem.Challenge.pw_nonearer_k58_files_of_a_shard.main.body.getD i (.Pass ⟨0, 0, 0, 0⟩)
abbrev s_is_word_of : Stmt := top 3
abbrev s_is_numeral : Stmt := top 4
abbrev s_lot_of : Stmt := top 5
abbrev s_check_shard_name : Stmt := top 13
abbrev s_log_file : Stmt := top 14
abbrev s_snapshot_file : Stmt := top 15
abbrev s_number_behind : Stmt := top 16
abbrev s_numbers_behind : Stmt := top 17
abbrev s_shard_files : Stmt := top 18
abbrev s__law_heap : Stmt := top 20
abbrev s__law_draw : Stmt := top 21
abbrev s__law_pick : Stmt := top 22
abbrev s__law_name : Stmt := top 23
abbrev s__law_number : Stmt := top 24
abbrev s__law_is_refused : Stmt := top 25
abbrev s__law_file : Stmt := top 26
abbrev s_law : Stmt := top 27
abbrev i_Refused : Stmt := clsAt (top 8) 0
def errNames : List Str := ["StoreError", "Refused"]
def L_Refused : List (Str × Bool) := [("StoreError", false), ("Refused", true)]
def tab_Refused : Str → Option Bool := fun x => L_Refused.lookup x
theorem in_Refused {y : Str} {b : Bool} (h : tab_Refused y = some b) : y ∈ errNames := tab_in h (by decide +kernel)
structure Txt (K : PySem.W.Frag) (mg : Str → Option Value) (aKINDS : Addr) : Prop where
  z_abs : mg "abs" = none
  z_all : mg "all" = none
  z_any : mg "any" = none
  z_int : mg "int" = none
  z_isinstance : mg "isinstance" = none
  z_len : mg "len" = none
  z_range : mg "range" = none
  z_repr : mg "repr" = none
  z_set : mg "set" = none
  z_sorted : mg "sorted" = none
  z_str : mg "str" = none
  z_tuple : mg "tuple" = none
  ef : ∀ y C, ClsAt K y C → y ∈ errNames → ErrF K C
  nf_word : ∀ y C, ClsAt K y C → y ∈ errNames → PySem.W.findIn K (.ref C) "word" = some none
  hit_Refused : ∃ c : Addr, mg "Refused" = some (.ref c) ∧ Hits K (.ref c) tab_Refused
  m_DIGITS : ∃ u : Value, mg "DIGITS" = some u ∧ RelV (.str "0123456789") u
  m_LETTERS : ∃ u : Value, mg "LETTERS" = some u ∧ RelV (.str "abcdefghijklmnopqrstuvwxyz") u
  m_LONGEST_SHARD_NAME : ∃ u : Value, mg "LONGEST_SHARD_NAME" = some u ∧ RelV (.int 8) u
  m_MOST_DIGITS : ∃ u : Value, mg "MOST_DIGITS" = some u ∧ RelV (.int 6) u
  m_NEW : ∃ u : Value, mg "NEW" = some u ∧ RelV (.str ".new") u
/-! ### contracts -/
abbrev S (l : List Nat) : Str := ⟨l.toArray⟩
def AL : List Nat := ("abcdefghijklmnopqrstuvwxyz0123456789" : Str).cps.toList
def DG : List Nat := ("0123456789" : Str).cps.toList
def tx (l : List Nat) : D := .str (S l)
def nsD (ns : List Int) : D := .tup (ns.map .int)
def tsD (xs : List (List Nat)) : D := .tup (xs.map tx)
/-- a word of some signs, of 1 to m signs -/
def wdB (sg : List Nat) (m : Int) (l : List Nat) : Bool := decide (1 ≤ (l.length : Int) ∧ (l.length : Int) ≤ m) && l.all fun c => decide (c ∈ sg)
def wordB (sg : List Nat) (m : Int) : D → Bool
  | .str x => wdB sg m x.cps.toList
  | _ => false
def numeB (l : List Nat) : Bool := wdB DG 6 l && (decide (l.head? ≠ some 48) || decide (l = [48]))
def numV (l : List Nat) : Int := ((NumText.digitsVal l : Nat) : Int)
/-- the number behind a start -/
def nbO (x st : List Nat) : Option Int := if st.isPrefixOf x && numeB (x.drop st.length) then some (numV (x.drop st.length)) else none
def nbD (x st : List Nat) : D := match nbO x st with
  | some n => .int n
  | none => .non
def stS (nm : List Nat) : List Nat := nm ++ [46, 115]
def stL (nm : List Nat) : List Nat := nm ++ [46, 108]
def NEWL : List Nat := [46, 110, 101, 119]
/-- a file that is not finished -/
def nwB (nm x : List Nat) : Bool := decide (x.drop (x.length - 4) = NEWL) && ((nbO (x.take (x.length - 4)) (stS nm)).isSome || (nbO (x.take (x.length - 4)) (stL nm)).isSome)
def inNs (zs ns : List Int) : Prop := zs.Pairwise (· < ·) ∧ ∀ k, k ∈ zs ↔ k ∈ ns
def inTs (zs xs : List (List Nat)) : Prop := zs.Pairwise (· < ·) ∧ ∀ k, k ∈ zs ↔ k ∈ xs
def nameOk (nm : List Nat) : Prop := nm ≠ [] ∧ nm.length ≤ 8 ∧ ∀ c ∈ nm, c ∈ AL
/-- what a file of the law is -/
def fileOk (nm x : List Nat) (k : Str) (d : D) : Prop := (x.length ≤ 40 ∧ ∀ c ∈ x, c < 1000) ∧
  ((k = "s" ∧ ∃ n : Nat, d = .int n ∧ x = stS nm ++ TL.numL n ∧ nbO x (stS nm) = some (n : Int) ∧ nbO x (stL nm) = none ∧ nwB nm x = false) ∨
   (k = "l" ∧ ∃ n : Nat, d = .int n ∧ x = stL nm ++ TL.numL n ∧ nbO x (stL nm) = some (n : Int) ∧ nbO x (stS nm) = none ∧ nwB nm x = false) ∨
   (k = "new" ∧ d = tx x ∧ nbO x (stS nm) = none ∧ nbO x (stL nm) = none ∧ nwB nm x = true) ∨
   (k = "" ∧ nbO x (stS nm) = none ∧ nbO x (stL nm) = none ∧ nwB nm x = false))
def otherOk (nm ot : List Nat) : Prop := ot.length = nm.length + 1 ∧ ∀ c ∈ ot, c ∈ AL
def tyS (M : Mp) (d : D) : Prop := (∃ t, tyD M d = some t) ∧ ∀ x, d = .str x → x.length ≤ 1000
def F_is_word_of : Fs := fun ds M Q _ => ∃ (d : D) (sg : List Nat) (m : Int), ds = [d, tx sg, .int m] ∧ tyS M d ∧ Q (.bl (wordB sg m d)) M
def F_is_numeral : Fs := fun ds M Q _ => ∃ (l : List Nat), ds = [tx l, .int 6] ∧ l.length ≤ 1000 ∧ Q (.bl (numeB l)) M
def F_lot_of : Fs := fun ds M Q _ => ∃ (d : D), ds = [d] ∧ ((∃ ns : List Int, seqD M d = some (ns.map .int) ∧ ns.length ≤ 100 ∧ ∀ zs, inNs zs ns → Q (nsD zs) M) ∨ (∃ xs : List (List Nat), seqD M d = some (xs.map tx) ∧ xs.length ≤ 100 ∧ ∀ zs, inTs zs xs → Q (tsD zs) M))
def F_check_shard_name : Fs := fun ds M Q R => ∃ (d : D), ds = [d] ∧ tyS M d ∧ (if wordB AL 8 d = true then Q .non M else R "Refused" (["word"], [.str "name"]) M)
def F_log_file : Fs := fun ds M Q _ => ∃ (nm : List Nat) (n : Nat), ds = [tx nm, .int n] ∧ nm.length ≤ 100 ∧ n ≤ 999999 ∧ Q (tx (stL nm ++ TL.numL n)) M
def F_snapshot_file : Fs := fun ds M Q _ => ∃ (nm : List Nat) (n : Nat), ds = [tx nm, .int n] ∧ nm.length ≤ 100 ∧ n ≤ 999999 ∧ Q (tx (stS nm ++ TL.numL n)) M
def F_number_behind : Fs := fun ds M Q _ => ∃ (x st : List Nat), ds = [tx x, tx st] ∧ x.length ≤ 100 ∧ st.length ≤ 100 ∧ Q (nbD x st) M
def F_numbers_behind : Fs := fun ds M Q _ => ∃ (xs : List (List Nat)) (st : List Nat), ds = [tsD xs, tx st] ∧ xs.length ≤ 20 ∧ (∀ x ∈ xs, x.length ≤ 100) ∧ st.length ≤ 100 ∧ ∀ zs, inNs zs (xs.filterMap fun x => nbO x st) → Q (nsD zs) M
def F_shard_files : Fs := fun ds M Q _ => ∃ (xs : List (List Nat)) (nm : List Nat), ds = [tsD xs, tx nm] ∧ xs.length ≤ 20 ∧ (∀ x ∈ xs, x.length ≤ 90) ∧ nm.length ≤ 90 ∧ ∀ z1 z2 z3, inNs z1 (xs.filterMap fun x => nbO x (stS nm)) → inNs z2 (xs.filterMap fun x => nbO x (stL nm)) → inTs z3 (xs.filter (nwB nm)) → Q (.tup [nsD z1, nsD z2, tsD z3]) M
def F__law_heap : Fs := fun ds M Q _ => ∃ ns : List Int, ds = [.lst (ns.map .int)] ∧ ns.length ≤ 63 ∧ ∀ (M' : Mp) (a a0 : Addr), M' a = some (.drw a0) → Q (.tok a) M'
abbrev F__law_draw : Fs := drawF
abbrev F__law_pick : Fs := pickF
def F__law_name : Fs := fun ds M Q _ => ∃ (a a0 : Addr), ds = [.tok a] ∧ M a = some (.drw a0) ∧ ∀ nm, nameOk nm → Q (tx nm) M
def F__law_number : Fs := fun ds M Q _ => ∃ (a a0 : Addr), ds = [.tok a] ∧ M a = some (.drw a0) ∧ ∀ n : Nat, n ≤ 999999 → Q (.int n) M
def F__law_is_refused : Fs := fun ds M Q _ => ∃ (d : D), ds = [d] ∧ tyS M d ∧ wordB AL 8 d = false ∧ ∀ M', Up M M' → Q (.bl true) M'
def F__law_file : Fs := fun ds M Q _ => ∃ (a a0 : Addr) (nm ot : List Nat), ds = [.tok a, tx nm, tx ot] ∧ M a = some (.drw a0) ∧ nameOk nm ∧ otherOk nm ot ∧ ∀ x k d, fileOk nm x k d → Q (.tup [tx x, .str k, d]) M
def F_law : Fs := fun ds M Q _ => ∃ ns : List Int, ds = [.lst (ns.map .int)] ∧ ns.length ≤ 63 ∧ ∀ M', Q (.bl true) M'
theorem ini_Refused {P : Program} {w : World} {K : PySem.W.Frag} {mg : Str → Option Value} {base : Heap} {fI : Addr} {fd : FuncData} (Fn : Fun K "__init__" "Refused.__init__" i_Refused fI fd) : FnOk P w K mg base (L2.CX P w) 1 fI fd ["self", "word"] (spI K ["word"]) := by
  refine Fn.okX (N := ["self", "word"]) ⟨rfl, rfl, rfl, by decide +kernel, rfl, by decide +kernel, by decide +kernel⟩ (fun vs H Q E h => ?_) fun cdv A outer s H vs Q E hr h => ?_
  · obtain ⟨a, C, ys, rfl, l, _⟩ := h
    rw [List.length_cons, l]
    rfl
  · refine ⟨_, pss_one (ps_ost (de_var 0).pe (de_var 1).pe), ?_⟩
    obtain ⟨a, C, ys, rfl, l, T, hno, ha, q⟩ := h
    match ys, l with
    | [v], _ => exact ⟨v, rfl, .ref a, rfl, a, C, rfl, T, hno _ List.mem_cons_self, .inl ⟨ha, fun dx h1 h2 => q dx h1 h2⟩⟩
section
variable {P : Program} {w : World} {K : PySem.W.Frag} {mg : Str → Option Value} {base : Heap} {aKINDS : Addr}
theorem sc_is_word_of : FnScope ["value", "signs", "most", "sign"] ["value", "signs", "most"] (defScope s_is_word_of) := ⟨rfl, rfl, rfl, by decide +kernel, rfl, by decide +kernel, by decide +kernel⟩
abbrev W_is_word_of : WS := (wRet (wAndV (wCB fIsi (wCons (wVar 0) (wCons (wC (.ty "str")) wNil))) (wAndV (wChain fLe fLe (wC (.int 1)) (wCB fLen (wCons (wVar 0) wNil)) (wVar 2)) (wCB (fBls fun bs => bs.all id) (wCons (wLc (wiStr (wVar 0)) (wgName 3) wYes (wOp (fInC false) (wVar 3) (wVar 1)) [3]) wNil)))))
theorem dv_is_word_of {f : Addr} (T : Txt K mg aKINDS) (cdv : Value) (A : Around) (outer : List Env) (s : Shared) (H : Hp) (E : XK) (gd : A.guards = some []) (hr : Room 0 (A.deeper (envOfC "is_word_of" (defScope s_is_word_of) s.heap.objs.size f cdv))) :
    ∃ t, DSs (cxOf (L2.CX P w) P w K mg base ["value", "signs", "most", "sign"] "is_word_of" (defScope s_is_word_of) f cdv A outer s H E) (lw E) (defBody s_is_word_of) t W_is_word_of := by
  exact ⟨_, (dss_one (ds_ret (de_and (de_callB call_isi sim_isi T.z_isinstance (show bootBuiltins "isinstance" = some (.builtin "isinstance") from rfl) (da_cons (de_var 0) (da_cons (de_bty T.z_str rfl) da_nil))) (de_and (de_chain op_le sim_le op_le sim_le de_int (de_callB call_lenA sim_len T.z_len (show bootBuiltins "len" = some (.builtin "len") from rfl) (da_cons (de_var 0) da_nil)) (de_var 2)) (de_one (de_callB (cr_all rfl) sim_all T.z_all (show bootBuiltins "all" = some (.builtin "all") from rfl) (da_cons (de_lc (own := [("sign", 3)]) rfl sc_is_word_of.nd (di_str (de_var 0)) (show BlkOk ["value", "signs", "most", "sign"] (defScope s_is_word_of) _ [("sign", 3)] from ⟨rfl, by decide +kernel, by decide +kernel, by decide +kernel, by decide +kernel⟩) (fun _ _ _ _ _ => (dg_name 3 sc_is_word_of.nd)) (fun _ _ _ _ _ => dts_nil) (fun _ _ _ _ _ => (de_cmp op_inC sim_inC (de_var 3) (de_var 1))) keep_name) da_nil)))))))⟩
theorem ok_is_word_of {f : Addr} {fd : FuncData} (Fn : Fun K "is_word_of" "is_word_of" s_is_word_of f fd) (T : Txt K mg aKINDS) (len : ∀ ds M Q E, F_is_word_of ds M Q E → ds.length = 3)
    (body : ∀ ds M Q R, F_is_word_of ds M Q R → W_is_word_of { nx := fun _ M' => Q .non M', rt := Q, xr := lx R } (startE 4 ds) M) : FnG P w K mg base 1 f fd ["value", "signs", "most"] (lift K F_is_word_of) :=
  ok_fn Fn sc_is_word_of len fun cdv A outer s H E gd hr => (dv_is_word_of T cdv A outer s H E gd hr).elim fun t ht => ⟨t, _, ht, body⟩
theorem sc_is_numeral : FnScope ["value", "most"] ["value", "most"] (defScope s_is_numeral) := ⟨rfl, rfl, rfl, by decide +kernel, rfl, by decide +kernel, by decide +kernel⟩
abbrev W_is_numeral : WS := (wRet (wAndV (wCall F_is_word_of (wCons (wVar 0) (wCons (wC (.str "0123456789")) (wCons (wVar 1) wNil)))) (wOrV (wOp (eqV true) (wOp ixD (wVar 0) (wC (.int 0))) (wC (.str "0"))) (wOp (eqV false) (wVar 0) (wC (.str "0"))))))
theorem dv_is_numeral {f : Addr} (T : Txt K mg aKINDS) (h_is_word_of : Has P w K mg base 1 "is_word_of" s_is_word_of ["value", "signs", "most"] F_is_word_of) (cdv : Value) (A : Around) (outer : List Env) (s : Shared) (H : Hp) (E : XK) (gd : A.guards = some []) (hr : Room 1 (A.deeper (envOfC "is_numeral" (defScope s_is_numeral) s.heap.objs.size f cdv))) :
    ∃ t, DSs (cxOf (L2.CX P w) P w K mg base ["value", "most"] "is_numeral" (defScope s_is_numeral) f cdv A outer s H E) (lw E) (defBody s_is_numeral) t W_is_numeral := by
  exact ⟨_, (dss_one (ds_ret (de_and (de_h h_is_word_of (hr.mono (by decide)) gd (da_cons (de_var 0) (da_cons (de_globS (v := (.str "0123456789")) (by rfl) T.m_DIGITS fun _ => .str _) (da_cons (de_var 1) da_nil)))) (de_one (de_or (de_cmp (op_neV hr) sim_neV (de_ix (de_var 0) de_int) de_str) (de_one (de_cmp (op_eqV hr) sim_eqV (de_var 0) de_str)))))))⟩
theorem ok_is_numeral {f : Addr} {fd : FuncData} (Fn : Fun K "is_numeral" "is_numeral" s_is_numeral f fd) (T : Txt K mg aKINDS) (h_is_word_of : Has P w K mg base 1 "is_word_of" s_is_word_of ["value", "signs", "most"] F_is_word_of) (len : ∀ ds M Q E, F_is_numeral ds M Q E → ds.length = 2)
    (body : ∀ ds M Q R, F_is_numeral ds M Q R → W_is_numeral { nx := fun _ M' => Q .non M', rt := Q, xr := lx R } (startE 2 ds) M) : FnG P w K mg base 2 f fd ["value", "most"] (lift K F_is_numeral) :=
  ok_fn Fn sc_is_numeral len fun cdv A outer s H E gd hr => (dv_is_numeral T h_is_word_of cdv A outer s H E gd hr).elim fun t ht => ⟨t, _, ht, body⟩
theorem sc_lot_of : FnScope ["things"] ["things"] (defScope s_lot_of) := ⟨rfl, rfl, rfl, by decide +kernel, rfl, by decide +kernel, by decide +kernel⟩
abbrev W_lot_of : WS := (wRet (wCB fTuple (wCons (wSortSet (wVar 0)) wNil)))
theorem dv_lot_of {f : Addr} (T : Txt K mg aKINDS) (cdv : Value) (A : Around) (outer : List Env) (s : Shared) (H : Hp) (E : XK) (gd : A.guards = some []) (hr : Room 0 (A.deeper (envOfC "lot_of" (defScope s_lot_of) s.heap.objs.size f cdv))) :
    ∃ t, DSs (cxOf (L2.CX P w) P w K mg base ["things"] "lot_of" (defScope s_lot_of) f cdv A outer s H E) (lw E) (defBody s_lot_of) t W_lot_of := by
  exact ⟨_, (dss_one (ds_ret (de_callTy call_tuple_of sim_tuple T.z_tuple (show bootBuiltins "tuple" = some (.type "tuple") from rfl) (da_cons (de_sortSet rfl hr T.z_sorted T.z_set (de_var 0)) da_nil))))⟩
theorem ok_lot_of {f : Addr} {fd : FuncData} (Fn : Fun K "lot_of" "lot_of" s_lot_of f fd) (T : Txt K mg aKINDS) (len : ∀ ds M Q E, F_lot_of ds M Q E → ds.length = 1)
    (body : ∀ ds M Q R, F_lot_of ds M Q R → W_lot_of { nx := fun _ M' => Q .non M', rt := Q, xr := lx R } (startE 1 ds) M) : FnG P w K mg base 1 f fd ["things"] (lift K F_lot_of) :=
  ok_fn Fn sc_lot_of len fun cdv A outer s H E gd hr => (dv_lot_of T cdv A outer s H E gd hr).elim fun t ht => ⟨t, _, ht, body⟩
theorem sc_check_shard_name : FnScope ["value"] ["value"] (defScope s_check_shard_name) := ⟨rfl, rfl, rfl, by decide +kernel, rfl, by decide +kernel, by decide +kernel⟩
abbrev W_check_shard_name : WS := (wIfS (wNot (wB (wCall F_is_word_of (wCons (wVar 0) (wCons (wOp addD (wC (.str "abcdefghijklmnopqrstuvwxyz")) (wC (.str "0123456789"))) (wCons (wC (.int 8)) wNil)))))) (wRaise "Refused" ["word"] (wCons (wC (.str "name")) wNil)) wNext)
theorem dv_check_shard_name {f : Addr} (T : Txt K mg aKINDS) (h_is_word_of : Has P w K mg base 1 "is_word_of" s_is_word_of ["value", "signs", "most"] F_is_word_of) (h_Refused : Err P w K mg base 1 "Refused" ["self", "word"] ["word"]) (cdv : Value) (A : Around) (outer : List Env) (s : Shared) (H : Hp) (E : XK) (gd : A.guards = some []) (hr : Room 2 (A.deeper (envOfC "check_shard_name" (defScope s_check_shard_name) s.heap.objs.size f cdv))) :
    ∃ t, DSs (cxOf (L2.CX P w) P w K mg base ["value"] "check_shard_name" (defScope s_check_shard_name) f cdv A outer s H E) (lw E) (defBody s_check_shard_name) t W_check_shard_name := by
  exact ⟨_, (dss_one (ds_if (dt_not (dt_val (de_h h_is_word_of (hr.mono (by decide)) gd (da_cons (de_var 0) (da_cons (de_add (de_globS (v := (.str "abcdefghijklmnopqrstuvwxyz")) (by rfl) T.m_LETTERS fun _ => .str _) (de_globS (v := (.str "0123456789")) (by rfl) T.m_DIGITS fun _ => .str _)) (da_cons (de_globS (v := (.int 8)) (by rfl) T.m_LONGEST_SHARD_NAME fun _ => .int _) da_nil)))))) (dss_one (Classical.choose_spec (ds_raise h_Refused rfl (hr.mono (by decide)) takes_top (da_cons de_str da_nil)))) dss_nil))⟩
theorem ok_check_shard_name {f : Addr} {fd : FuncData} (Fn : Fun K "check_shard_name" "check_shard_name" s_check_shard_name f fd) (T : Txt K mg aKINDS) (h_is_word_of : Has P w K mg base 1 "is_word_of" s_is_word_of ["value", "signs", "most"] F_is_word_of) (h_Refused : Err P w K mg base 1 "Refused" ["self", "word"] ["word"]) (len : ∀ ds M Q E, F_check_shard_name ds M Q E → ds.length = 1)
    (body : ∀ ds M Q R, F_check_shard_name ds M Q R → W_check_shard_name { nx := fun _ M' => Q .non M', rt := Q, xr := lx R } (startE 1 ds) M) : FnG P w K mg base 3 f fd ["value"] (lift K F_check_shard_name) :=
  ok_fn Fn sc_check_shard_name len fun cdv A outer s H E gd hr => (dv_check_shard_name T h_is_word_of h_Refused cdv A outer s H E gd hr).elim fun t ht => ⟨t, _, ht, body⟩
theorem sc_log_file : FnScope ["name", "number"] ["name", "number"] (defScope s_log_file) := ⟨rfl, rfl, rfl, by decide +kernel, rfl, by decide +kernel, by decide +kernel⟩
abbrev W_log_file : WS := (wRet (wJs [(wFmt (wVar 0)), (wC (.str ".l")), (wFmt (wVar 1))] Str.empty))
theorem dv_log_file {f : Addr} (T : Txt K mg aKINDS) (cdv : Value) (A : Around) (outer : List Env) (s : Shared) (H : Hp) (E : XK) (gd : A.guards = some []) (hr : Room 0 (A.deeper (envOfC "log_file" (defScope s_log_file) s.heap.objs.size f cdv))) :
    ∃ t, DSs (cxOf (L2.CX P w) P w K mg base ["name", "number"] "log_file" (defScope s_log_file) f cdv A outer s H E) (lw E) (defBody s_log_file) t W_log_file := by
  exact ⟨_, (dss_one (ds_ret (de_joined (.cons (de_fmt (de_var 0)) (.cons de_str (.cons (de_fmt (de_var 1)) .nil))))))⟩
theorem ok_log_file {f : Addr} {fd : FuncData} (Fn : Fun K "log_file" "log_file" s_log_file f fd) (T : Txt K mg aKINDS) (len : ∀ ds M Q E, F_log_file ds M Q E → ds.length = 2)
    (body : ∀ ds M Q R, F_log_file ds M Q R → W_log_file { nx := fun _ M' => Q .non M', rt := Q, xr := lx R } (startE 2 ds) M) : FnG P w K mg base 1 f fd ["name", "number"] (lift K F_log_file) :=
  ok_fn Fn sc_log_file len fun cdv A outer s H E gd hr => (dv_log_file T cdv A outer s H E gd hr).elim fun t ht => ⟨t, _, ht, body⟩
theorem sc_snapshot_file : FnScope ["name", "number"] ["name", "number"] (defScope s_snapshot_file) := ⟨rfl, rfl, rfl, by decide +kernel, rfl, by decide +kernel, by decide +kernel⟩
abbrev W_snapshot_file : WS := (wRet (wJs [(wFmt (wVar 0)), (wC (.str ".s")), (wFmt (wVar 1))] Str.empty))
theorem dv_snapshot_file {f : Addr} (T : Txt K mg aKINDS) (cdv : Value) (A : Around) (outer : List Env) (s : Shared) (H : Hp) (E : XK) (gd : A.guards = some []) (hr : Room 0 (A.deeper (envOfC "snapshot_file" (defScope s_snapshot_file) s.heap.objs.size f cdv))) :
    ∃ t, DSs (cxOf (L2.CX P w) P w K mg base ["name", "number"] "snapshot_file" (defScope s_snapshot_file) f cdv A outer s H E) (lw E) (defBody s_snapshot_file) t W_snapshot_file := by
  exact ⟨_, (dss_one (ds_ret (de_joined (.cons (de_fmt (de_var 0)) (.cons de_str (.cons (de_fmt (de_var 1)) .nil))))))⟩
theorem ok_snapshot_file {f : Addr} {fd : FuncData} (Fn : Fun K "snapshot_file" "snapshot_file" s_snapshot_file f fd) (T : Txt K mg aKINDS) (len : ∀ ds M Q E, F_snapshot_file ds M Q E → ds.length = 2)
    (body : ∀ ds M Q R, F_snapshot_file ds M Q R → W_snapshot_file { nx := fun _ M' => Q .non M', rt := Q, xr := lx R } (startE 2 ds) M) : FnG P w K mg base 1 f fd ["name", "number"] (lift K F_snapshot_file) :=
  ok_fn Fn sc_snapshot_file len fun cdv A outer s H E gd hr => (dv_snapshot_file T cdv A outer s H E gd hr).elim fun t ht => ⟨t, _, ht, body⟩
theorem sc_number_behind : FnScope ["text", "start", "digits"] ["text", "start"] (defScope s_number_behind) := ⟨rfl, rfl, rfl, by decide +kernel, rfl, by decide +kernel, by decide +kernel⟩
abbrev W_number_behind : WS := (wSeq (wAsg (wSl (wVar 0) (wPart (wCB fLen (wCons (wVar 1) wNil))) wNoP) (wgName 2)) (wRet (wIf (wAnd (wB (wStarts (wVar 0) (wVar 1))) (wB (wCall F_is_numeral (wCons (wVar 2) (wCons (wC (.int 6)) wNil))))) (wCB fIntX (wCons (wVar 2) wNil)) (wC .non))))
theorem dv_number_behind {f : Addr} (T : Txt K mg aKINDS) (h_is_numeral : Has P w K mg base 2 "is_numeral" s_is_numeral ["value", "most"] F_is_numeral) (cdv : Value) (A : Around) (outer : List Env) (s : Shared) (H : Hp) (E : XK) (gd : A.guards = some []) (hr : Room 2 (A.deeper (envOfC "number_behind" (defScope s_number_behind) s.heap.objs.size f cdv))) :
    ∃ t, DSs (cxOf (L2.CX P w) P w K mg base ["text", "start", "digits"] "number_behind" (defScope s_number_behind) f cdv A outer s H E) (lw E) (defBody s_number_behind) t W_number_behind := by
  exact ⟨_, (dss_cons (ds_set 2 sc_number_behind.nd (de_slice (de_var 0) (do_some (de_callB call_lenA sim_len T.z_len (show bootBuiltins "len" = some (.builtin "len") from rfl) (da_cons (de_var 1) da_nil))) do_none)) (dss_one (ds_ret (de_if (DW.dt (dw_and (dt_val (de_s1 (g' := fun a b => .bl (Txt.startswith a b)) PySem.F.slot_str_startswith PySem.F.type_str_startswith mt_startswith (fun a b H Q _ q => ⟨a, b, rfl, rfl, q⟩) (fun a b H => .bl _) (de_var 0) (de_var 1))) (dw_and1 (dt_val (de_h h_is_numeral (hr.mono (by decide)) gd (da_cons (de_var 2) (da_cons (de_globS (v := (.int 6)) (by rfl) T.m_MOST_DIGITS fun _ => .int _) da_nil))))))) (de_callTy call_intX sim_intX T.z_int (show bootBuiltins "int" = some (.type "int") from rfl) (da_cons (de_var 2) da_nil)) de_non))))⟩
theorem ok_number_behind {f : Addr} {fd : FuncData} (Fn : Fun K "number_behind" "number_behind" s_number_behind f fd) (T : Txt K mg aKINDS) (h_is_numeral : Has P w K mg base 2 "is_numeral" s_is_numeral ["value", "most"] F_is_numeral) (len : ∀ ds M Q E, F_number_behind ds M Q E → ds.length = 2)
    (body : ∀ ds M Q R, F_number_behind ds M Q R → W_number_behind { nx := fun _ M' => Q .non M', rt := Q, xr := lx R } (startE 3 ds) M) : FnG P w K mg base 3 f fd ["text", "start"] (lift K F_number_behind) :=
  ok_fn Fn sc_number_behind len fun cdv A outer s H E gd hr => (dv_number_behind T h_is_numeral cdv A outer s H E gd hr).elim fun t ht => ⟨t, _, ht, body⟩
theorem sc_numbers_behind : FnScope ["texts", "start", "numbers", "text", "number"] ["texts", "start"] (defScope s_numbers_behind) := ⟨rfl, rfl, rfl, by decide +kernel, rfl, by decide +kernel, by decide +kernel⟩
abbrev W_numbers_behind : WS := (wSeq (wAsg (wLc (wiSeq (wVar 0)) (wgName 3) wYes (wCall F_number_behind (wCons (wVar 3) (wCons (wVar 1) wNil))) [3]) (wgName 2)) (wRet (wCall F_lot_of (wCons (wLc (wiSeq (wVar 2)) (wgName 4) (wB (wOp (fIsN true) (wVar 4) (wC .non))) (wVar 4) [4]) wNil))))
theorem dv_numbers_behind {f : Addr} (T : Txt K mg aKINDS) (h_lot_of : Has P w K mg base 1 "lot_of" s_lot_of ["things"] F_lot_of) (h_number_behind : Has P w K mg base 3 "number_behind" s_number_behind ["text", "start"] F_number_behind) (cdv : Value) (A : Around) (outer : List Env) (s : Shared) (H : Hp) (E : XK) (gd : A.guards = some []) (hr : Room 3 (A.deeper (envOfC "numbers_behind" (defScope s_numbers_behind) s.heap.objs.size f cdv))) :
    ∃ t, DSs (cxOf (L2.CX P w) P w K mg base ["texts", "start", "numbers", "text", "number"] "numbers_behind" (defScope s_numbers_behind) f cdv A outer s H E) (lw E) (defBody s_numbers_behind) t W_numbers_behind := by
  exact ⟨_, (dss_cons (ds_setLc 2 (own := [("text", 3)]) rfl sc_numbers_behind.nd (di_seq (de_var 0)) (show BlkOk ["texts", "start", "numbers", "text", "number"] (defScope s_numbers_behind) _ [("text", 3)] from ⟨rfl, by decide +kernel, by decide +kernel, by decide +kernel, by decide +kernel⟩) (fun _ _ _ _ _ => (dg_name 3 sc_numbers_behind.nd)) (fun _ _ _ _ _ => dts_nil) (fun _ _ _ _ _ => (de_h h_number_behind (hr.mono (by decide)) gd (da_cons (de_var 3) (da_cons (de_var 1) da_nil)))) keep_name (by rfl)) (dss_one (ds_ret (de_h h_lot_of (hr.mono (by decide)) gd (da_cons (de_lc (own := [("number", 4)]) rfl sc_numbers_behind.nd (di_seq (de_var 2)) (show BlkOk ["texts", "start", "numbers", "text", "number"] (defScope s_numbers_behind) _ [("number", 4)] from ⟨rfl, by decide +kernel, by decide +kernel, by decide +kernel, by decide +kernel⟩) (fun _ _ _ _ _ => (dg_name 4 sc_numbers_behind.nd)) (fun _ _ _ _ _ => (dts_one (dt_cmp op_notN sim_notN (de_var 4) de_non))) (fun _ _ _ _ _ => (de_var 4)) keep_name) da_nil)))))⟩
theorem ok_numbers_behind {f : Addr} {fd : FuncData} (Fn : Fun K "numbers_behind" "numbers_behind" s_numbers_behind f fd) (T : Txt K mg aKINDS) (h_lot_of : Has P w K mg base 1 "lot_of" s_lot_of ["things"] F_lot_of) (h_number_behind : Has P w K mg base 3 "number_behind" s_number_behind ["text", "start"] F_number_behind) (len : ∀ ds M Q E, F_numbers_behind ds M Q E → ds.length = 2)
    (body : ∀ ds M Q R, F_numbers_behind ds M Q R → W_numbers_behind { nx := fun _ M' => Q .non M', rt := Q, xr := lx R } (startE 5 ds) M) : FnG P w K mg base 4 f fd ["texts", "start"] (lift K F_numbers_behind) :=
  ok_fn Fn sc_numbers_behind len fun cdv A outer s H E gd hr => (dv_numbers_behind T h_lot_of h_number_behind cdv A outer s H E gd hr).elim fun t ht => ⟨t, _, ht, body⟩
theorem sc_shard_files : FnScope ["names", "name", "starts", "bare", "new", "file", "text", "start"] ["names", "name"] (defScope s_shard_files) := ⟨rfl, rfl, rfl, by decide +kernel, rfl, by decide +kernel, by decide +kernel⟩
abbrev W_shard_files : WS := (wSeq (wAsg (wTup (wCons (wOp addD (wVar 1) (wC (.str ".s"))) (wCons (wOp addD (wVar 1) (wC (.str ".l"))) wNil))) (wgName 2)) (wSeq (wAsg (wLc (wiSeq (wVar 0)) (wgName 5) (wB (wEnds (wVar 5) (wC (.str ".new")))) (wSl (wVar 5) wNoP (wPart (wNeg (wCB fLen (wCons (wC (.str ".new")) wNil))))) [5]) (wgName 3)) (wSeq (wAsg (wLc (wiSeq (wVar 3)) (wgName 6) (wB (wCB (fBls fun bs => bs.any id) (wCons (wLc (wiSeq (wVar 2)) (wgName 7) wYes (wOp (fIsN true) (wCall F_number_behind (wCons (wVar 6) (wCons (wVar 7) wNil))) (wC .non)) [7]) wNil))) (wOp addD (wVar 6) (wC (.str ".new"))) [6]) (wgName 4)) (wRet (wTup (wCons (wCall F_numbers_behind (wCons (wVar 0) (wCons (wOp ixD (wVar 2) (wC (.int 0))) wNil))) (wCons (wCall F_numbers_behind (wCons (wVar 0) (wCons (wOp ixD (wVar 2) (wC (.int 1))) wNil))) (wCons (wCall F_lot_of (wCons (wVar 4) wNil)) wNil))))))))
theorem dv_shard_files {f : Addr} (T : Txt K mg aKINDS) (h_lot_of : Has P w K mg base 1 "lot_of" s_lot_of ["things"] F_lot_of) (h_number_behind : Has P w K mg base 3 "number_behind" s_number_behind ["text", "start"] F_number_behind) (h_numbers_behind : Has P w K mg base 4 "numbers_behind" s_numbers_behind ["texts", "start"] F_numbers_behind) (cdv : Value) (A : Around) (outer : List Env) (s : Shared) (H : Hp) (E : XK) (gd : A.guards = some []) (hr : Room 4 (A.deeper (envOfC "shard_files" (defScope s_shard_files) s.heap.objs.size f cdv))) :
    ∃ t, DSs (cxOf (L2.CX P w) P w K mg base ["names", "name", "starts", "bare", "new", "file", "text", "start"] "shard_files" (defScope s_shard_files) f cdv A outer s H E) (lw E) (defBody s_shard_files) t W_shard_files := by
  exact ⟨_, (dss_cons (ds_set 2 sc_shard_files.nd (de_tup (da_cons (de_add (de_var 1) de_str) (da_cons (de_add (de_var 1) de_str) da_nil)))) (dss_cons (ds_setLc 3 (own := [("file", 5)]) rfl sc_shard_files.nd (di_seq (de_var 0)) (show BlkOk ["names", "name", "starts", "bare", "new", "file", "text", "start"] (defScope s_shard_files) _ [("file", 5)] from ⟨rfl, by decide +kernel, by decide +kernel, by decide +kernel, by decide +kernel⟩) (fun _ _ _ _ _ => (dg_name 5 sc_shard_files.nd)) (fun _ _ _ _ _ => (dts_one (dt_val (de_s1 (g' := fun a b => .bl (Txt.endswith a b)) PySem.F.slot_str_endswith PySem.F.type_str_endswith mt_endswith (fun a b H Q _ q => ⟨a, b, rfl, rfl, q⟩) (fun a b H => .bl _) (de_var 5) (de_globS (v := (.str ".new")) (by rfl) T.m_NEW fun _ => .str _))))) (fun _ _ _ _ _ => (de_slice (de_var 5) do_none (do_some (de_neg (de_callB call_lenA sim_len T.z_len (show bootBuiltins "len" = some (.builtin "len") from rfl) (da_cons (de_globS (v := (.str ".new")) (by rfl) T.m_NEW fun _ => .str _) da_nil)))))) keep_name (by rfl)) (dss_cons (ds_setLc 4 (own := [("text", 6)]) rfl sc_shard_files.nd (di_seq (de_var 3)) (show BlkOk ["names", "name", "starts", "bare", "new", "file", "text", "start"] (defScope s_shard_files) _ [("text", 6)] from ⟨rfl, by decide +kernel, by decide +kernel, by decide +kernel, by decide +kernel⟩) (fun _ _ _ _ _ => (dg_name 6 sc_shard_files.nd)) (fun _ _ _ _ _ => (dts_one (dt_val (de_callB (cr_any rfl) sim_any T.z_any (show bootBuiltins "any" = some (.builtin "any") from rfl) (da_cons (de_lc (own := [("start", 7)]) rfl sc_shard_files.nd (di_seq (de_var 2)) (show BlkOk ["names", "name", "starts", "bare", "new", "file", "text", "start"] _ _ [("start", 7)] from ⟨rfl, of_decide_eq_true (by kernel_rfl), of_decide_eq_true (by kernel_rfl), of_decide_eq_true (by kernel_rfl), of_decide_eq_true (by kernel_rfl)⟩) (fun _ _ _ _ _ => (dg_name 7 sc_shard_files.nd)) (fun _ _ _ _ _ => dts_nil) (fun _ _ _ _ _ => (de_cmp op_notN sim_notN (de_h h_number_behind (hr.mono (by decide)) gd (da_cons (de_var 6) (da_cons (de_var 7) da_nil))) de_non)) keep_name) da_nil))))) (fun _ _ _ _ _ => (de_add (de_var 6) (de_globS (v := (.str ".new")) (by rfl) T.m_NEW fun _ => .str _))) keep_name (by rfl)) (dss_one (ds_ret (de_tup (da_cons (de_h h_numbers_behind (hr.mono (by decide)) gd (da_cons (de_var 0) (da_cons (de_ix (de_var 2) de_int) da_nil))) (da_cons (de_h h_numbers_behind (hr.mono (by decide)) gd (da_cons (de_var 0) (da_cons (de_ix (de_var 2) de_int) da_nil))) (da_cons (de_h h_lot_of (hr.mono (by decide)) gd (da_cons (de_var 4) da_nil)) da_nil)))))))))⟩
theorem ok_shard_files {f : Addr} {fd : FuncData} (Fn : Fun K "shard_files" "shard_files" s_shard_files f fd) (T : Txt K mg aKINDS) (h_lot_of : Has P w K mg base 1 "lot_of" s_lot_of ["things"] F_lot_of) (h_number_behind : Has P w K mg base 3 "number_behind" s_number_behind ["text", "start"] F_number_behind) (h_numbers_behind : Has P w K mg base 4 "numbers_behind" s_numbers_behind ["texts", "start"] F_numbers_behind) (len : ∀ ds M Q E, F_shard_files ds M Q E → ds.length = 2)
    (body : ∀ ds M Q R, F_shard_files ds M Q R → W_shard_files { nx := fun _ M' => Q .non M', rt := Q, xr := lx R } (startE 8 ds) M) : FnG P w K mg base 5 f fd ["names", "name"] (lift K F_shard_files) :=
  ok_fn Fn sc_shard_files len fun cdv A outer s H E gd hr => (dv_shard_files T h_lot_of h_number_behind h_numbers_behind cdv A outer s H E gd hr).elim fun t ht => ⟨t, _, ht, body⟩
theorem sc__law_heap : FnScope ["script", "cell", "cells", "stir"] ["script"] (defScope s__law_heap) := ⟨rfl, rfl, rfl, by decide +kernel, rfl, by decide +kernel, by decide +kernel⟩
abbrev W__law_heap : WS := (wSeq (wPar 2 3 (wCons (wLc (wiSeq (wSl (wVar 0) wNoP (wPart (wC (.int 60))))) (wgName 1) wYes (wOp addD (wOp (fI CM fun i j => .int (i * j)) (wC (.int 2)) (wCB fAbs (wCons (wVar 1) wNil))) (wCB fInt (wCons (wOp fLt (wVar 1) (wC (.int 0))) wNil))) [1]) (wCons (wC (.int 30817)) wNil))) (wSeq (wFor (wiSeq (wVar 2)) (wgName 1) (wAsg (wOp (fI (fun _ j => 0 < j) fun i j => .int (i % j)) (wCB fInt (wCons (wOp addD (wOp addD (wOp (fI CM fun i j => .int (i * j)) (wVar 3) (wC (.int 69621))) (wOp (fI (fun _ j => 0 < j) fun i j => .int (i % j)) (wCB fInt (wCons (wVar 1) wNil)) (wC (.int 2147483563)))) (wC (.int 23))) wNil)) (wC (.int 2147483647))) (wgName 3))) (wRet (wDrw (wLc (wiSeq (wVar 2)) (wgName 1) (wB (wOp fGe (wVar 1) (wOp (fI CPow fun i j => .int (i ^ j.toNat)) (wC (.int 10)) (wC (.int 18))))) (wVar 1) [1]) 3))))
theorem dv__law_heap {f : Addr} (T : Txt K mg aKINDS) (cdv : Value) (A : Around) (outer : List Env) (s : Shared) (H : Hp) (E : XK) (gd : A.guards = some []) (hr : Room 0 (A.deeper (envOfC "_law_heap" (defScope s__law_heap) s.heap.objs.size f cdv))) :
    ∃ t, DSs (cxOf (L2.CX P w) P w K mg base ["script", "cell", "cells", "stir"] "_law_heap" (defScope s__law_heap) f cdv A outer s H E) (lw E) (defBody s__law_heap) t W__law_heap := by
  exact ⟨_, (dss_cons (ds_par 2 3 rfl sc__law_heap.nd (da_cons (de_lc (own := [("cell", 1)]) rfl sc__law_heap.nd (di_seq (de_slice (de_var 0) do_none (do_some de_int))) (show BlkOk ["script", "cell", "cells", "stir"] (defScope s__law_heap) _ [("cell", 1)] from ⟨rfl, by decide +kernel, by decide +kernel, by decide +kernel, by decide +kernel⟩) (fun _ _ _ _ _ => (dg_name 1 sc__law_heap.nd)) (fun _ _ _ _ _ => dts_nil) (fun _ _ _ _ _ => (de_add (de_mul de_int (de_callB call_abs sim_abs T.z_abs (show bootBuiltins "abs" = some (.builtin "abs") from rfl) (da_cons (de_var 1) da_nil))) (de_callTy call_int1 sim_int T.z_int (show bootBuiltins "int" = some (.type "int") from rfl) (da_cons (de_cmp op_lt sim_lt (de_var 1) de_int) da_nil)))) keep_name) (da_cons de_int da_nil))) (dss_cons (ds_for (passes_of rfl) rfl (di_seq (de_var 2)) (dg_name 1 sc__law_heap.nd) (dss_one (ds_set 3 sc__law_heap.nd (de_mod (de_callTy call_int1 sim_int T.z_int (show bootBuiltins "int" = some (.type "int") from rfl) (da_cons (de_add (de_add (de_mul (de_var 3) de_int) (de_mod (de_callTy call_int1 sim_int T.z_int (show bootBuiltins "int" = some (.type "int") from rfl) (da_cons (de_var 1) da_nil)) de_int)) de_int) da_nil)) de_int)))) (dss_one (ds_ret (de_drw 3 (de_lc (own := [("cell", 1)]) rfl sc__law_heap.nd (di_seq (de_var 2)) (show BlkOk ["script", "cell", "cells", "stir"] (defScope s__law_heap) _ [("cell", 1)] from ⟨rfl, by decide +kernel, by decide +kernel, by decide +kernel, by decide +kernel⟩) (fun _ _ _ _ _ => (dg_name 1 sc__law_heap.nd)) (fun _ _ _ _ _ => (dts_one (dt_cmp op_ge sim_ge (de_var 1) (de_pow de_int de_int)))) (fun _ _ _ _ _ => (de_var 1)) keep_name))))))⟩
theorem ok__law_heap {f : Addr} {fd : FuncData} (Fn : Fun K "_law_heap" "_law_heap" s__law_heap f fd) (T : Txt K mg aKINDS) (len : ∀ ds M Q E, F__law_heap ds M Q E → ds.length = 1)
    (body : ∀ ds M Q R, F__law_heap ds M Q R → W__law_heap { nx := fun _ M' => Q .non M', rt := Q, xr := lx R } (startE 4 ds) M) : FnG P w K mg base 1 f fd ["script"] (lift K F__law_heap) :=
  ok_fn Fn sc__law_heap len fun cdv A outer s H E gd hr => (dv__law_heap T cdv A outer s H E gd hr).elim fun t ht => ⟨t, _, ht, body⟩
theorem sc__law_draw : FnScope ["heap", "many", "rest"] ["heap", "many"] (defScope s__law_draw) := ⟨rfl, rfl, rfl, by decide +kernel, rfl, by decide +kernel, by decide +kernel⟩
theorem sc__law_pick : FnScope ["heap", "some"] ["heap", "some"] (defScope s__law_pick) := ⟨rfl, rfl, rfl, by decide +kernel, rfl, by decide +kernel, by decide +kernel⟩
abbrev W__law_pick : WS := (wRet (wOp ixD (wVar 1) (wCall F__law_draw (wCons (wVar 0) (wCons (wCB fLen (wCons (wVar 1) wNil)) wNil)))))
theorem dv__law_pick {f : Addr} (T : Txt K mg aKINDS) (h__law_draw : Has P w K mg base 1 "_law_draw" s__law_draw ["heap", "many"] F__law_draw) (cdv : Value) (A : Around) (outer : List Env) (s : Shared) (H : Hp) (E : XK) (gd : A.guards = some []) (hr : Room 1 (A.deeper (envOfC "_law_pick" (defScope s__law_pick) s.heap.objs.size f cdv))) :
    ∃ t, DSs (cxOf (L2.CX P w) P w K mg base ["heap", "some"] "_law_pick" (defScope s__law_pick) f cdv A outer s H E) (lw E) (defBody s__law_pick) t W__law_pick := by
  exact ⟨_, (dss_one (ds_ret (de_ix (de_var 1) (de_h h__law_draw (hr.mono (by decide)) gd (da_cons (de_var 0) (da_cons (de_callB call_lenA sim_len T.z_len (show bootBuiltins "len" = some (.builtin "len") from rfl) (da_cons (de_var 1) da_nil)) da_nil))))))⟩
theorem ok__law_pick {f : Addr} {fd : FuncData} (Fn : Fun K "_law_pick" "_law_pick" s__law_pick f fd) (T : Txt K mg aKINDS) (h__law_draw : Has P w K mg base 1 "_law_draw" s__law_draw ["heap", "many"] F__law_draw) (len : ∀ ds M Q E, F__law_pick ds M Q E → ds.length = 2)
    (body : ∀ ds M Q R, F__law_pick ds M Q R → W__law_pick { nx := fun _ M' => Q .non M', rt := Q, xr := lx R } (startE 2 ds) M) : FnG P w K mg base 2 f fd ["heap", "some"] (lift K F__law_pick) :=
  ok_fn Fn sc__law_pick len fun cdv A outer s H E gd hr => (dv__law_pick T h__law_draw cdv A outer s H E gd hr).elim fun t ht => ⟨t, _, ht, body⟩
theorem sc__law_name : FnScope ["heap", "signs", "turn"] ["heap"] (defScope s__law_name) := ⟨rfl, rfl, rfl, by decide +kernel, rfl, by decide +kernel, by decide +kernel⟩
abbrev W__law_name : WS := (wSeq (wAsg (wC (.str "abcdefghijklmnopqrstuvwxyz0123456789")) (wgName 1)) (wRet (wJoin (wC (.str "")) (wLc (wiRange1 (wCons (wCall F__law_pick (wCons (wVar 0) (wCons (wLst (wCons (wC (.int 1)) (wCons (wC (.int 3)) (wCons (wC (.int 8)) (wCons (wC (.int 2)) (wCons (wC (.int 5)) wNil)))))) wNil))) wNil)) (wgName 2) wYes (wOp ixD (wVar 1) (wCall F__law_draw (wCons (wVar 0) (wCons (wC (.int 36)) wNil)))) [2]))))
theorem dv__law_name {f : Addr} (T : Txt K mg aKINDS) (h__law_draw : Has P w K mg base 1 "_law_draw" s__law_draw ["heap", "many"] F__law_draw) (h__law_pick : Has P w K mg base 2 "_law_pick" s__law_pick ["heap", "some"] F__law_pick) (cdv : Value) (A : Around) (outer : List Env) (s : Shared) (H : Hp) (E : XK) (gd : A.guards = some []) (hr : Room 2 (A.deeper (envOfC "_law_name" (defScope s__law_name) s.heap.objs.size f cdv))) :
    ∃ t, DSs (cxOf (L2.CX P w) P w K mg base ["heap", "signs", "turn"] "_law_name" (defScope s__law_name) f cdv A outer s H E) (lw E) (defBody s__law_name) t W__law_name := by
  exact ⟨_, (dss_cons (ds_set 1 sc__law_name.nd de_str) (dss_one (ds_ret (de_join de_str (de_lc (own := [("turn", 2)]) rfl sc__law_name.nd (di_range1 T.z_range (da_cons (de_h h__law_pick (hr.mono (by decide)) gd (da_cons (de_var 0) (da_cons (de_lst (da_cons de_int (da_cons de_int (da_cons de_int (da_cons de_int (da_cons de_int da_nil)))))) da_nil))) da_nil)) (show BlkOk ["heap", "signs", "turn"] (defScope s__law_name) _ [("turn", 2)] from ⟨rfl, by decide +kernel, by decide +kernel, by decide +kernel, by decide +kernel⟩) (fun _ _ _ _ _ => (dg_name 2 sc__law_name.nd)) (fun _ _ _ _ _ => dts_nil) (fun _ _ _ _ _ => (de_ix (de_var 1) (de_h h__law_draw (hr.mono (by decide)) gd (da_cons (de_var 0) (da_cons de_int da_nil))))) keep_name)))))⟩
theorem ok__law_name {f : Addr} {fd : FuncData} (Fn : Fun K "_law_name" "_law_name" s__law_name f fd) (T : Txt K mg aKINDS) (h__law_draw : Has P w K mg base 1 "_law_draw" s__law_draw ["heap", "many"] F__law_draw) (h__law_pick : Has P w K mg base 2 "_law_pick" s__law_pick ["heap", "some"] F__law_pick) (len : ∀ ds M Q E, F__law_name ds M Q E → ds.length = 1)
    (body : ∀ ds M Q R, F__law_name ds M Q R → W__law_name { nx := fun _ M' => Q .non M', rt := Q, xr := lx R } (startE 3 ds) M) : FnG P w K mg base 3 f fd ["heap"] (lift K F__law_name) :=
  ok_fn Fn sc__law_name len fun cdv A outer s H E gd hr => (dv__law_name T h__law_draw h__law_pick cdv A outer s H E gd hr).elim fun t ht => ⟨t, _, ht, body⟩
theorem sc__law_number : FnScope ["heap"] ["heap"] (defScope s__law_number) := ⟨rfl, rfl, rfl, by decide +kernel, rfl, by decide +kernel, by decide +kernel⟩
abbrev W__law_number : WS := (wRet (wCall F__law_pick (wCons (wVar 0) (wCons (wLst (wCons (wC (.int 0)) (wCons (wC (.int 1)) (wCons (wC (.int 7)) (wCons (wC (.int 10)) (wCons (wC (.int 99)) (wCons (wC (.int 100)) (wCons (wC (.int 999999)) (wCons (wCall F__law_draw (wCons (wVar 0) (wCons (wOp (fI CPow fun i j => .int (i ^ j.toNat)) (wC (.int 10)) (wC (.int 6))) wNil))) wNil))))))))) wNil))))
theorem dv__law_number {f : Addr} (T : Txt K mg aKINDS) (h__law_draw : Has P w K mg base 1 "_law_draw" s__law_draw ["heap", "many"] F__law_draw) (h__law_pick : Has P w K mg base 2 "_law_pick" s__law_pick ["heap", "some"] F__law_pick) (cdv : Value) (A : Around) (outer : List Env) (s : Shared) (H : Hp) (E : XK) (gd : A.guards = some []) (hr : Room 2 (A.deeper (envOfC "_law_number" (defScope s__law_number) s.heap.objs.size f cdv))) :
    ∃ t, DSs (cxOf (L2.CX P w) P w K mg base ["heap"] "_law_number" (defScope s__law_number) f cdv A outer s H E) (lw E) (defBody s__law_number) t W__law_number := by
  exact ⟨_, (dss_one (ds_ret (de_h h__law_pick (hr.mono (by decide)) gd (da_cons (de_var 0) (da_cons (de_lst (da_cons de_int (da_cons de_int (da_cons de_int (da_cons de_int (da_cons de_int (da_cons de_int (da_cons de_int (da_cons (de_h h__law_draw (hr.mono (by decide)) gd (da_cons (de_var 0) (da_cons (de_pow de_int de_int) da_nil))) da_nil))))))))) da_nil)))))⟩
theorem ok__law_number {f : Addr} {fd : FuncData} (Fn : Fun K "_law_number" "_law_number" s__law_number f fd) (T : Txt K mg aKINDS) (h__law_draw : Has P w K mg base 1 "_law_draw" s__law_draw ["heap", "many"] F__law_draw) (h__law_pick : Has P w K mg base 2 "_law_pick" s__law_pick ["heap", "some"] F__law_pick) (len : ∀ ds M Q E, F__law_number ds M Q E → ds.length = 1)
    (body : ∀ ds M Q R, F__law_number ds M Q R → W__law_number { nx := fun _ M' => Q .non M', rt := Q, xr := lx R } (startE 1 ds) M) : FnG P w K mg base 3 f fd ["heap"] (lift K F__law_number) :=
  ok_fn Fn sc__law_number len fun cdv A outer s H E gd hr => (dv__law_number T h__law_draw h__law_pick cdv A outer s H E gd hr).elim fun t ht => ⟨t, _, ht, body⟩
theorem sc__law_is_refused : FnScope ["value", "error"] ["value"] (defScope s__law_is_refused) := ⟨rfl, rfl, rfl, by decide +kernel, rfl, by decide +kernel, by decide +kernel⟩
abbrev W__law_is_refused : WS := (wSeq (wTryAs 1 tab_Refused (wDropX (wCallX F_check_shard_name (wCons (wVar 0) wNil))) (fun a y dx => (wRet (wOp (eqSc false) (wXf a y dx "word" (wVar 1)) (wC (.str "name")))))) (wRet (wC (.bl false))))
theorem dv__law_is_refused {f : Addr} (T : Txt K mg aKINDS) (h_check_shard_name : Has P w K mg base 3 "check_shard_name" s_check_shard_name ["value"] F_check_shard_name) (cdv : Value) (A : Around) (outer : List Env) (s : Shared) (H : Hp) (E : XK) (gd : A.guards = some []) (hr : Room 3 (A.deeper (envOfC "_law_is_refused" (defScope s__law_is_refused) s.heap.objs.size f cdv))) :
    ∃ t, DSs (cxOf (L2.CX P w) P w K mg base ["value", "error"] "_law_is_refused" (defScope s__law_is_refused) f cdv A outer s H E) (lw E) (defBody s__law_is_refused) t W__law_is_refused := by
  obtain ⟨ch_Refused, mh_Refused, hh_Refused⟩ := T.hit_Refused
  exact ⟨_, (dss_cons (ds_try_as (i := 1) (hit := tab_Refused) rfl rfl sc__law_is_refused.nd rfl rfl ⟨rfl, by decide, .inl mh_Refused⟩ takes_top hh_Refused (fun W' pn xe tk pw => (dss_one (ds_exprX (dx_h h_check_shard_name (hr.mono (by decide)) gd tk (da_cons (de_var 0) da_nil))))) (fun a oe y C dx pn cx hz hf ca hy => by exact (dss_one (ds_ret (de_eqS cx a oe pn (de_xf (T.ef y C ca (in_Refused hy)) (T.nf_word y C ca (in_Refused hy)) hz hf (de_var 1)) de_str))))) (dss_one (ds_ret de_bl)))⟩
theorem ok__law_is_refused {f : Addr} {fd : FuncData} (Fn : Fun K "_law_is_refused" "_law_is_refused" s__law_is_refused f fd) (T : Txt K mg aKINDS) (h_check_shard_name : Has P w K mg base 3 "check_shard_name" s_check_shard_name ["value"] F_check_shard_name) (len : ∀ ds M Q E, F__law_is_refused ds M Q E → ds.length = 1)
    (body : ∀ ds M Q R, F__law_is_refused ds M Q R → W__law_is_refused { nx := fun _ M' => Q .non M', rt := Q, xr := lx R } (startE 2 ds) M) : FnG P w K mg base 4 f fd ["value"] (lift K F__law_is_refused) :=
  ok_fn Fn sc__law_is_refused len fun cdv A outer s H E gd hr => (dv__law_is_refused T h_check_shard_name cdv A outer s H E gd hr).elim fun t ht => ⟨t, _, ht, body⟩
theorem sc__law_file : FnScope ["heap", "name", "other", "right", "kind", "odds", "number", "word", "odd"] ["heap", "name", "other"] (defScope s__law_file) := ⟨rfl, rfl, rfl, by decide +kernel, rfl, by decide +kernel, by decide +kernel⟩
abbrev W__law_file : WS := (wSeq (wPar 6 7 (wCons (wCall F__law_number (wCons (wVar 0) wNil)) (wCons (wCall F__law_pick (wCons (wVar 0) (wCons (wLst (wCons (wC (.str "l")) (wCons (wC (.str "s")) wNil))) wNil))) wNil))) (wSeq (wAsg (wOp addD (wOp addD (wOp addD (wVar 1) (wC (.str "."))) (wVar 7)) (wCB fStrI (wCons (wVar 6) wNil))) (wgName 3)) (wSeq (wAsg (wCall F__law_draw (wCons (wVar 0) (wCons (wC (.int 8)) wNil))) (wgName 4)) (wSeq (wIfS (wB (wOp fLt (wVar 4) (wC (.int 3)))) (wRet (wTup (wCons (wIf (wB (wOp (eqV false) (wVar 7) (wC (.str "l")))) (wCall F_log_file (wCons (wVar 1) (wCons (wVar 6) wNil))) (wCallK 0 2 [1, 0] F_snapshot_file wNil (wCons (wVar 6) (wCons (wVar 1) wNil)))) (wCons (wVar 7) (wCons (wVar 6) wNil))))) wNext) (wSeq (wIfS (wB (wOp (eqV false) (wVar 4) (wC (.int 3)))) (wRet (wTup (wCons (wOp addD (wVar 3) (wC (.str ".new"))) (wCons (wC (.str "new")) (wCons (wOp addD (wVar 3) (wC (.str ".new"))) wNil))))) wNext) (wSeq (wAsg (wLst (wCons (wOp addD (wVar 3) (wC (.str ".neu"))) (wCons (wOp addD (wVar 3) (wC (.str ".new.new"))) (wCons (wOp addD (wOp addD (wVar 1) (wVar 7)) (wCB fStrI (wCons (wVar 6) wNil))) (wCons (wOp addD (wOp addD (wVar 1) (wC (.str "."))) (wVar 7)) (wCons (wOp addD (wOp addD (wOp addD (wOp addD (wVar 1) (wC (.str "."))) (wVar 7)) (wC (.str "0"))) (wCB fStrI (wCons (wVar 6) wNil))) (wCons (wVar 1) wNil))))))) (wgName 5)) (wSeq (wAsg (wOp addD (wVar 5) (wLst (wCons (wOp addD (wOp addD (wVar 1) (wC (.str ".t"))) (wCB fStrI (wCons (wVar 6) wNil))) (wCons (wOp addD (wVar 3) (wC (.str "a"))) (wCons (wOp addD (wOp addD (wOp addD (wVar 1) (wC (.str "."))) (wVar 7)) (wC (.str ".new"))) (wCons (wOp addD (wOp addD (wOp addD (wVar 2) (wC (.str "."))) (wVar 7)) (wCB fStrI (wCons (wVar 6) wNil))) (wCons (wOp addD (wVar 3) (wC (.str "."))) (wCons (wOp addD (wC (.str "x")) (wVar 3)) wNil)))))))) (wgName 5)) (wSeq (wAsg (wOp addD (wVar 5) (wLst (wCons (wOp addD (wOp addD (wOp addD (wVar 1) (wC (.str "."))) (wVar 7)) (wC (.str "1000000"))) (wCons (wOp addD (wOp addD (wVar 1) (wC (.str "."))) (wCB fStrI (wCons (wVar 6) wNil))) (wCons (wOp addD (wOp addD (wOp addD (wVar 1) (wC (.str ".."))) (wVar 7)) (wCB fStrI (wCons (wVar 6) wNil))) (wCons (wC (.str ".new")) (wCons (wOp addD (wVar 3) (wC (.str "new"))) wNil))))))) (wgName 5)) (wRet (wTup (wCons (wCall F__law_pick (wCons (wVar 0) (wCons (wLc (wiSeq (wVar 5)) (wgName 8) (wB (wOp fLe (wCB fLen (wCons (wVar 8) wNil)) (wC (.int 20)))) (wVar 8) [8]) wNil))) (wCons (wC (.str "")) (wCons (wC (.int 0)) wNil)))))))))))))
theorem dv__law_file {f : Addr} (T : Txt K mg aKINDS) (h_log_file : Has P w K mg base 1 "log_file" s_log_file ["name", "number"] F_log_file) (h_snapshot_file : Has P w K mg base 1 "snapshot_file" s_snapshot_file ["name", "number"] F_snapshot_file) (h__law_draw : Has P w K mg base 1 "_law_draw" s__law_draw ["heap", "many"] F__law_draw) (h__law_pick : Has P w K mg base 2 "_law_pick" s__law_pick ["heap", "some"] F__law_pick) (h__law_number : Has P w K mg base 3 "_law_number" s__law_number ["heap"] F__law_number) (cdv : Value) (A : Around) (outer : List Env) (s : Shared) (H : Hp) (E : XK) (gd : A.guards = some []) (hr : Room 3 (A.deeper (envOfC "_law_file" (defScope s__law_file) s.heap.objs.size f cdv))) :
    ∃ t, DSs (cxOf (L2.CX P w) P w K mg base ["heap", "name", "other", "right", "kind", "odds", "number", "word", "odd"] "_law_file" (defScope s__law_file) f cdv A outer s H E) (lw E) (defBody s__law_file) t W__law_file := by
  exact ⟨_, (dss_cons (ds_par 6 7 rfl sc__law_file.nd (da_cons (de_h h__law_number (hr.mono (by decide)) gd (da_cons (de_var 0) da_nil)) (da_cons (de_h h__law_pick (hr.mono (by decide)) gd (da_cons (de_var 0) (da_cons (de_lst (da_cons de_str (da_cons de_str da_nil))) da_nil))) da_nil))) (dss_cons (ds_set 3 sc__law_file.nd (de_add (de_add (de_add (de_var 1) de_str) (de_var 7)) (de_callTy call_str_int sim_strI T.z_str (show bootBuiltins "str" = some (.type "str") from rfl) (da_cons (de_var 6) da_nil)))) (dss_cons (ds_set 4 sc__law_file.nd (de_h h__law_draw (hr.mono (by decide)) gd (da_cons (de_var 0) (da_cons de_int da_nil)))) (dss_cons (ds_if (dt_cmp op_lt sim_lt (de_var 4) de_int) (dss_one (ds_ret (de_tup (da_cons (de_if (dt_cmp (op_eqV hr) sim_eqV (de_var 7) de_str) (de_h h_log_file (hr.mono (by decide)) gd (da_cons (de_var 1) (da_cons (de_var 6) da_nil))) (de_hk0 (ks := ["number", "name"]) (idx := [1, 0]) h_snapshot_file (hr.mono (by decide)) gd (fun _ _ _ _ _ _ us ws h1 h2 => match us, ws, h1, h2 with | [], [_, _], _, _ => rfl) (dk_cons (de_var 6) (dk_cons (de_var 1) dk_nil)))) (da_cons (de_var 7) (da_cons (de_var 6) da_nil)))))) dss_nil) (dss_cons (ds_if (dt_cmp (op_eqV hr) sim_eqV (de_var 4) de_int) (dss_one (ds_ret (de_tup (da_cons (de_add (de_var 3) de_str) (da_cons de_str (da_cons (de_add (de_var 3) de_str) da_nil)))))) dss_nil) (dss_cons (ds_set 5 sc__law_file.nd (de_lst (da_cons (de_add (de_var 3) de_str) (da_cons (de_add (de_var 3) de_str) (da_cons (de_add (de_add (de_var 1) (de_var 7)) (de_callTy call_str_int sim_strI T.z_str (show bootBuiltins "str" = some (.type "str") from rfl) (da_cons (de_var 6) da_nil))) (da_cons (de_add (de_add (de_var 1) de_str) (de_var 7)) (da_cons (de_add (de_add (de_add (de_add (de_var 1) de_str) (de_var 7)) de_str) (de_callTy call_str_int sim_strI T.z_str (show bootBuiltins "str" = some (.type "str") from rfl) (da_cons (de_var 6) da_nil))) (da_cons (de_var 1) da_nil)))))))) (dss_cons (ds_set 5 sc__law_file.nd (de_add (de_var 5) (de_lst (da_cons (de_add (de_add (de_var 1) de_str) (de_callTy call_str_int sim_strI T.z_str (show bootBuiltins "str" = some (.type "str") from rfl) (da_cons (de_var 6) da_nil))) (da_cons (de_add (de_var 3) de_str) (da_cons (de_add (de_add (de_add (de_var 1) de_str) (de_var 7)) de_str) (da_cons (de_add (de_add (de_add (de_var 2) de_str) (de_var 7)) (de_callTy call_str_int sim_strI T.z_str (show bootBuiltins "str" = some (.type "str") from rfl) (da_cons (de_var 6) da_nil))) (da_cons (de_add (de_var 3) de_str) (da_cons (de_add de_str (de_var 3)) da_nil))))))))) (dss_cons (ds_set 5 sc__law_file.nd (de_add (de_var 5) (de_lst (da_cons (de_add (de_add (de_add (de_var 1) de_str) (de_var 7)) de_str) (da_cons (de_add (de_add (de_var 1) de_str) (de_callTy call_str_int sim_strI T.z_str (show bootBuiltins "str" = some (.type "str") from rfl) (da_cons (de_var 6) da_nil))) (da_cons (de_add (de_add (de_add (de_var 1) de_str) (de_var 7)) (de_callTy call_str_int sim_strI T.z_str (show bootBuiltins "str" = some (.type "str") from rfl) (da_cons (de_var 6) da_nil))) (da_cons de_str (da_cons (de_add (de_var 3) de_str) da_nil)))))))) (dss_one (ds_ret (de_tup (da_cons (de_h h__law_pick (hr.mono (by decide)) gd (da_cons (de_var 0) (da_cons (de_lc (own := [("odd", 8)]) rfl sc__law_file.nd (di_seq (de_var 5)) (show BlkOk ["heap", "name", "other", "right", "kind", "odds", "number", "word", "odd"] (defScope s__law_file) _ [("odd", 8)] from ⟨rfl, by decide +kernel, by decide +kernel, by decide +kernel, by decide +kernel⟩) (fun _ _ _ _ _ => (dg_name 8 sc__law_file.nd)) (fun _ _ _ _ _ => (dts_one (dt_cmp op_le sim_le (de_callB call_lenA sim_len T.z_len (show bootBuiltins "len" = some (.builtin "len") from rfl) (da_cons (de_var 8) da_nil)) de_int))) (fun _ _ _ _ _ => (de_var 8)) keep_name) da_nil))) (da_cons de_str (da_cons de_int da_nil))))))))))))))⟩
theorem ok__law_file {f : Addr} {fd : FuncData} (Fn : Fun K "_law_file" "_law_file" s__law_file f fd) (T : Txt K mg aKINDS) (h_log_file : Has P w K mg base 1 "log_file" s_log_file ["name", "number"] F_log_file) (h_snapshot_file : Has P w K mg base 1 "snapshot_file" s_snapshot_file ["name", "number"] F_snapshot_file) (h__law_draw : Has P w K mg base 1 "_law_draw" s__law_draw ["heap", "many"] F__law_draw) (h__law_pick : Has P w K mg base 2 "_law_pick" s__law_pick ["heap", "some"] F__law_pick) (h__law_number : Has P w K mg base 3 "_law_number" s__law_number ["heap"] F__law_number) (len : ∀ ds M Q E, F__law_file ds M Q E → ds.length = 3)
    (body : ∀ ds M Q R, F__law_file ds M Q R → W__law_file { nx := fun _ M' => Q .non M', rt := Q, xr := lx R } (startE 9 ds) M) : FnG P w K mg base 4 f fd ["heap", "name", "other"] (lift K F__law_file) :=
  ok_fn Fn sc__law_file len fun cdv A outer s H E gd hr => (dv__law_file T h_log_file h_snapshot_file h__law_draw h__law_pick h__law_number cdv A outer s H E gd hr).elim fun t ht => ⟨t, _, ht, body⟩
theorem sc_law : FnScope ["script", "heap", "turn", "again", "due", "number", "at", "wrong", "name", "found", "other", "names", "file_name", "kind", "told", "value"] ["script"] (defScope s_law) := ⟨rfl, rfl, rfl, by decide +kernel, rfl, by decide +kernel, by decide +kernel⟩
abbrev W_law : WS := (wSeq (wAsg (wCall F__law_heap (wCons (wVar 0) wNil)) (wgName 1)) (wSeq (wFor (wiRange1 (wCons (wOp addD (wC (.int 3)) (wCB fInt (wCons (wOp fGt (wCB fLen (wCons (wVar 0) wNil)) (wC (.int 2))) wNil))) wNil)) (wgName 2) (wSeq (wPar 8 9 (wCons (wCall F__law_name (wCons (wVar 1) wNil)) (wCons (wDisp [((wC (.str "s")), (wLstM wNil)), ((wC (.str "l")), (wLstM wNil)), ((wC (.str "new")), (wLstM wNil))]) wNil))) (wSeq (wPar 10 11 (wCons (wCall F__law_pick (wCons (wVar 1) (wCons (wLst (wCons (wOp addD (wVar 8) (wC (.str "a"))) (wCons (wOp addD (wOp addD (wSl (wVar 8) wNoP (wPart (wNeg (wC (.int 1))))) (wC (.str "b"))) (wSl (wVar 8) (wPart (wNeg (wC (.int 1)))) wNoP)) (wCons (wOp addD (wC (.str "q")) (wVar 8)) wNil)))) wNil))) (wCons (wLstM wNil) wNil))) (wSeq (wIfS (wOr (wB (wOp (eqV false) (wVar 10) (wVar 8))) (wOr (wB (wOp (fIsN true) (wCall F_check_shard_name (wCons (wVar 8) wNil)) (wC .non))) (wB (wOp (fIsN true) (wCallK 0 1 [0] F_check_shard_name wNil (wCons (wVar 8) wNil)) (wC .non))))) (wRet (wC (.bl false))) wNext) (wSeq (wFor (wiRange1 (wCons (wCall F__law_pick (wCons (wVar 1) (wCons (wLst (wCons (wC (.int 6)) (wCons (wC (.int 3)) (wCons (wC (.int 12)) (wCons (wC (.int 0)) wNil))))) wNil))) wNil)) (wgName 3) (wSeq (wAsg (wCall F__law_file (wCons (wVar 1) (wCons (wVar 8) (wCons (wVar 10) wNil)))) (wgTup 3 (wgCons (wgName 12) (wgCons (wgName 13) (wgCons (wgName 14) wgNil))))) (wSeq (wIfS (wB (wOp (fInA false) (wVar 12) (wVar 11))) wCont wNext) (wSeq (wDrop (wApp (wVar 11) (wCons (wVar 12) wNil))) (wIfS (wB (wOp (eqV true) (wVar 13) (wC (.str "")))) (wDrop (wApp (wDGet (wVar 9) (wVar 13)) (wCons (wVar 14) wNil))) wNext))))) (wSeq (wAsg (wTup (wCons (wCB fTuple (wCons (wCB fSrt (wCons (wDGet (wVar 9) (wC (.str "s"))) wNil)) wNil)) (wCons (wCB fTuple (wCons (wCB fSrt (wCons (wDGet (wVar 9) (wC (.str "l"))) wNil)) wNil)) (wCons (wCB fTuple (wCons (wCB fSrt (wCons (wDGet (wVar 9) (wC (.str "new"))) wNil)) wNil)) wNil)))) (wgName 4)) (wSeq (wIfS (wOr (wB (wOp (eqV true) (wCB fRepr (wCons (wCall F_shard_files (wCons (wCB fTuple (wCons (wVar 11) wNil)) (wCons (wVar 8) wNil))) wNil)) (wCB fRepr (wCons (wVar 4) wNil)))) (wB (wOp (eqV true) (wCallK 0 2 [1, 0] F_shard_files wNil (wCons (wVar 8) (wCons (wCB fTuple (wCons (wRev (wVar 11)) wNil)) wNil))) (wVar 4)))) (wRet (wC (.bl false))) wNext) (wSeq (wAsg (wCall F__law_number (wCons (wVar 1) wNil)) (wgName 5)) (wSeq (wIfS (wOr (wB (wOp (eqV true) (wCallK 0 2 [0, 1] F_log_file wNil (wCons (wVar 8) (wCons (wVar 5) wNil))) (wOp addD (wOp addD (wVar 8) (wC (.str ".l"))) (wCB fStrI (wCons (wVar 5) wNil))))) (wB (wOp (eqV true) (wCall F_snapshot_file (wCons (wVar 8) (wCons (wVar 5) wNil))) (wOp addD (wOp addD (wVar 8) (wC (.str ".s"))) (wCB fStrI (wCons (wVar 5) wNil)))))) (wRet (wC (.bl false))) wNext) (wSeq (wAsg (wCall F__law_draw (wCons (wVar 1) (wCons (wOp addD (wCB fLen (wCons (wVar 8) wNil)) (wC (.int 1))) wNil))) (wgName 6)) (wSeq (wAsg (wLst (wCons (wOp addD (wOp addD (wSl (wVar 8) wNoP (wPart (wVar 6))) (wCall F__law_pick (wCons (wVar 1) (wCons (wLst (wCons (wC (.str ".")) (wCons (wC (.str "A")) (wCons (wC (.str "-")) (wCons (wC (.str " ")) (wCons (wC (.str "_")) wNil)))))) wNil)))) (wSl (wVar 8) (wPart (wVar 6)) wNoP)) (wCons (wC (.str "")) (wCons (wOp addD (wVar 8) (wC (.str "abcdefgh"))) (wCons (wC .non) (wCons (wC (.int 7)) (wCons (wLst (wCons (wVar 8) wNil)) (wCons (wTup (wCons (wVar 8) wNil)) (wCons (wC (.bl true)) wNil))))))))) (wgName 7)) (wIfS (wNot (wB (wCB (fBls fun bs => bs.all id) (wCons (wLc (wiSeq (wVar 7)) (wgName 15) wYes (wCall F__law_is_refused (wCons (wVar 15) wNil)) [15]) wNil)))) (wRet (wC (.bl false))) wNext)))))))))))) (wRet (wAndV (wOp (eqV false) (wCall F_shard_files (wCons (wTup wNil) (wCons (wC (.str "a")) wNil))) (wTup (wCons (wTup wNil) (wCons (wTup wNil) (wCons (wTup wNil) wNil))))) (wOp (eqV false) (wCall F_shard_files (wCons (wTup (wCons (wC (.str "a.l0")) (wCons (wC (.str "a.s0")) (wCons (wC (.str "a.l00")) (wCons (wC (.str "a.s3.new")) wNil))))) (wCons (wC (.str "a")) wNil))) (wTup (wCons (wTup (wCons (wC (.int 0)) wNil)) (wCons (wTup (wCons (wC (.int 0)) wNil)) (wCons (wTup (wCons (wC (.str "a.s3.new")) wNil)) wNil)))))))))
theorem dv_law {f : Addr} (T : Txt K mg aKINDS) (h_check_shard_name : Has P w K mg base 3 "check_shard_name" s_check_shard_name ["value"] F_check_shard_name) (h_log_file : Has P w K mg base 1 "log_file" s_log_file ["name", "number"] F_log_file) (h_snapshot_file : Has P w K mg base 1 "snapshot_file" s_snapshot_file ["name", "number"] F_snapshot_file) (h_shard_files : Has P w K mg base 5 "shard_files" s_shard_files ["names", "name"] F_shard_files) (h__law_heap : Has P w K mg base 1 "_law_heap" s__law_heap ["script"] F__law_heap) (h__law_draw : Has P w K mg base 1 "_law_draw" s__law_draw ["heap", "many"] F__law_draw) (h__law_pick : Has P w K mg base 2 "_law_pick" s__law_pick ["heap", "some"] F__law_pick) (h__law_name : Has P w K mg base 3 "_law_name" s__law_name ["heap"] F__law_name) (h__law_number : Has P w K mg base 3 "_law_number" s__law_number ["heap"] F__law_number) (h__law_is_refused : Has P w K mg base 4 "_law_is_refused" s__law_is_refused ["value"] F__law_is_refused) (h__law_file : Has P w K mg base 4 "_law_file" s__law_file ["heap", "name", "other"] F__law_file) (cdv : Value) (A : Around) (outer : List Env) (s : Shared) (H : Hp) (E : XK) (gd : A.guards = some []) (hr : Room 5 (A.deeper (envOfC "law" (defScope s_law) s.heap.objs.size f cdv))) :
    ∃ t, DSs (cxOf (L2.CX P w) P w K mg base ["script", "heap", "turn", "again", "due", "number", "at", "wrong", "name", "found", "other", "names", "file_name", "kind", "told", "value"] "law" (defScope s_law) f cdv A outer s H E) (lw E) (defBody s_law) t W_law := by
  exact ⟨_, (dss_cons (ds_set 1 sc_law.nd (de_h h__law_heap (hr.mono (by decide)) gd (da_cons (de_var 0) da_nil))) (dss_cons (ds_for (passes_of rfl) rfl (di_range1 T.z_range (da_cons (de_add de_int (de_callTy call_int1 sim_int T.z_int (show bootBuiltins "int" = some (.type "int") from rfl) (da_cons (de_cmp op_gt sim_gt (de_callB call_lenA sim_len T.z_len (show bootBuiltins "len" = some (.builtin "len") from rfl) (da_cons (de_var 0) da_nil)) de_int) da_nil))) da_nil)) (dg_name 2 sc_law.nd) (dss_cons (ds_par 8 9 rfl sc_law.nd (da_cons (de_h h__law_name (hr.mono (by decide)) gd (da_cons (de_var 1) da_nil)) (da_cons (de_disp (dps_cons de_str (de_lstM da_nil) (dps_cons de_str (de_lstM da_nil) (dps_cons de_str (de_lstM da_nil) dps_nil)))) da_nil))) (dss_cons (ds_par 10 11 rfl sc_law.nd (da_cons (de_h h__law_pick (hr.mono (by decide)) gd (da_cons (de_var 1) (da_cons (de_lst (da_cons (de_add (de_var 8) de_str) (da_cons (de_add (de_add (de_slice (de_var 8) do_none (do_some (de_neg de_int))) de_str) (de_slice (de_var 8) (do_some (de_neg de_int)) do_none)) (da_cons (de_add de_str (de_var 8)) da_nil)))) da_nil))) (da_cons (de_lstM da_nil) da_nil))) (dss_cons (ds_if (DW.dt (dw_or (dt_cmp (op_eqV hr) sim_eqV (de_var 10) (de_var 8)) (dw_or (dt_cmp op_notN sim_notN (de_h h_check_shard_name (hr.mono (by decide)) gd (da_cons (de_var 8) da_nil)) de_non) (dw_or1 (dt_cmp op_notN sim_notN (de_hk0 (ks := ["value"]) (idx := [0]) h_check_shard_name (hr.mono (by decide)) gd (fun _ _ _ _ _ _ us ws h1 h2 => match us, ws, h1, h2 with | [], [_], _, _ => rfl) (dk_cons (de_var 8) dk_nil)) de_non))))) (dss_one (ds_ret de_bl)) dss_nil) (dss_cons (ds_for (passes_of rfl) rfl (di_range1 T.z_range (da_cons (de_h h__law_pick (hr.mono (by decide)) gd (da_cons (de_var 1) (da_cons (de_lst (da_cons de_int (da_cons de_int (da_cons de_int (da_cons de_int da_nil))))) da_nil))) da_nil)) (dg_name 3 sc_law.nd) (dss_cons (ds_asg (de_h h__law_file (hr.mono (by decide)) gd (da_cons (de_var 1) (da_cons (de_var 8) (da_cons (de_var 10) da_nil)))) (dg_tup rfl (dgs_cons (dg_name 12 sc_law.nd) (dgs_cons (dg_name 13 sc_law.nd) (dgs_cons (dg_name 14 sc_law.nd) dgs_nil))))) (dss_cons (ds_if (dt_cmp (op_inA hr) sim_inA (de_var 12) (de_var 11)) (dss_one ds_cont) dss_nil) (dss_cons (ds_expr (de_append (de_var 11) (da_cons (de_var 12) da_nil))) (dss_one (ds_if (dt_cmp (op_neV hr) sim_neV (de_var 13) de_str) (dss_one (ds_expr (de_append (de_dget hr (de_var 9) (de_var 13)) (da_cons (de_var 14) da_nil)))) dss_nil)))))) (dss_cons (ds_set 4 sc_law.nd (de_tup (da_cons (de_callTy call_tuple_of sim_tuple T.z_tuple (show bootBuiltins "tuple" = some (.type "tuple") from rfl) (da_cons (de_callB (cr_srt hr) sim_srt T.z_sorted (show bootBuiltins "sorted" = some (.builtin "sorted") from rfl) (da_cons (de_dget hr (de_var 9) de_str) da_nil)) da_nil)) (da_cons (de_callTy call_tuple_of sim_tuple T.z_tuple (show bootBuiltins "tuple" = some (.type "tuple") from rfl) (da_cons (de_callB (cr_srt hr) sim_srt T.z_sorted (show bootBuiltins "sorted" = some (.builtin "sorted") from rfl) (da_cons (de_dget hr (de_var 9) de_str) da_nil)) da_nil)) (da_cons (de_callTy call_tuple_of sim_tuple T.z_tuple (show bootBuiltins "tuple" = some (.type "tuple") from rfl) (da_cons (de_callB (cr_srt hr) sim_srt T.z_sorted (show bootBuiltins "sorted" = some (.builtin "sorted") from rfl) (da_cons (de_dget hr (de_var 9) de_str) da_nil)) da_nil)) da_nil))))) (dss_cons (ds_if (DW.dt (dw_or (dt_cmp (op_neV hr) sim_neV (de_callB (call_repr_any hr gd) sim_repr T.z_repr (show bootBuiltins "repr" = some (.builtin "repr") from rfl) (da_cons (de_h h_shard_files (hr.mono (by decide)) gd (da_cons (de_callTy call_tuple_of sim_tuple T.z_tuple (show bootBuiltins "tuple" = some (.type "tuple") from rfl) (da_cons (de_var 11) da_nil)) (da_cons (de_var 8) da_nil))) da_nil)) (de_callB (call_repr_any hr gd) sim_repr T.z_repr (show bootBuiltins "repr" = some (.builtin "repr") from rfl) (da_cons (de_var 4) da_nil))) (dw_or1 (dt_cmp (op_neV hr) sim_neV (de_hk0 (ks := ["name", "names"]) (idx := [1, 0]) h_shard_files (hr.mono (by decide)) gd (fun _ _ _ _ _ _ us ws h1 h2 => match us, ws, h1, h2 with | [], [_, _], _, _ => rfl) (dk_cons (de_var 8) (dk_cons (de_callTy call_tuple_of sim_tuple T.z_tuple (show bootBuiltins "tuple" = some (.type "tuple") from rfl) (da_cons (de_rev (de_var 11)) da_nil)) dk_nil))) (de_var 4))))) (dss_one (ds_ret de_bl)) dss_nil) (dss_cons (ds_set 5 sc_law.nd (de_h h__law_number (hr.mono (by decide)) gd (da_cons (de_var 1) da_nil))) (dss_cons (ds_if (DW.dt (dw_or (dt_cmp (op_neV hr) sim_neV (de_hk0 (ks := ["name", "number"]) (idx := [0, 1]) h_log_file (hr.mono (by decide)) gd (fun _ _ _ _ _ _ us ws h1 h2 => match us, ws, h1, h2 with | [], [_, _], _, _ => rfl) (dk_cons (de_var 8) (dk_cons (de_var 5) dk_nil))) (de_add (de_add (de_var 8) de_str) (de_callTy call_str_int sim_strI T.z_str (show bootBuiltins "str" = some (.type "str") from rfl) (da_cons (de_var 5) da_nil)))) (dw_or1 (dt_cmp (op_neV hr) sim_neV (de_h h_snapshot_file (hr.mono (by decide)) gd (da_cons (de_var 8) (da_cons (de_var 5) da_nil))) (de_add (de_add (de_var 8) de_str) (de_callTy call_str_int sim_strI T.z_str (show bootBuiltins "str" = some (.type "str") from rfl) (da_cons (de_var 5) da_nil))))))) (dss_one (ds_ret de_bl)) dss_nil) (dss_cons (ds_set 6 sc_law.nd (de_h h__law_draw (hr.mono (by decide)) gd (da_cons (de_var 1) (da_cons (de_add (de_callB call_lenA sim_len T.z_len (show bootBuiltins "len" = some (.builtin "len") from rfl) (da_cons (de_var 8) da_nil)) de_int) da_nil)))) (dss_cons (ds_set 7 sc_law.nd (de_lst (da_cons (de_add (de_add (de_slice (de_var 8) do_none (do_some (de_var 6))) (de_h h__law_pick (hr.mono (by decide)) gd (da_cons (de_var 1) (da_cons (de_lst (da_cons de_str (da_cons de_str (da_cons de_str (da_cons de_str (da_cons de_str da_nil)))))) da_nil)))) (de_slice (de_var 8) (do_some (de_var 6)) do_none)) (da_cons de_str (da_cons (de_add (de_var 8) de_str) (da_cons de_non (da_cons de_int (da_cons (de_lst (da_cons (de_var 8) da_nil)) (da_cons (de_tup (da_cons (de_var 8) da_nil)) (da_cons de_bl da_nil)))))))))) (dss_one (ds_if (dt_not (dt_val (de_callB (cr_all rfl) sim_all T.z_all (show bootBuiltins "all" = some (.builtin "all") from rfl) (da_cons (de_lc (own := [("value", 15)]) rfl sc_law.nd (di_seq (de_var 7)) (show BlkOk ["script", "heap", "turn", "again", "due", "number", "at", "wrong", "name", "found", "other", "names", "file_name", "kind", "told", "value"] (defScope s_law) _ [("value", 15)] from ⟨rfl, by decide +kernel, by decide +kernel, by decide +kernel, by decide +kernel⟩) (fun _ _ _ _ _ => (dg_name 15 sc_law.nd)) (fun _ _ _ _ _ => dts_nil) (fun _ _ _ _ _ => (de_h h__law_is_refused (hr.mono (by decide)) gd (da_cons (de_var 15) da_nil))) keep_name) da_nil)))) (dss_one (ds_ret de_bl)) dss_nil))))))))))))) (dss_one (ds_ret (de_and (de_cmp (op_eqV hr) sim_eqV (de_h h_shard_files (hr.mono (by decide)) gd (da_cons (de_tup da_nil) (da_cons de_str da_nil))) (de_tup (da_cons (de_tup da_nil) (da_cons (de_tup da_nil) (da_cons (de_tup da_nil) da_nil))))) (de_one (de_cmp (op_eqV hr) sim_eqV (de_h h_shard_files (hr.mono (by decide)) gd (da_cons (de_tup (da_cons de_str (da_cons de_str (da_cons de_str (da_cons de_str da_nil))))) (da_cons de_str da_nil))) (de_tup (da_cons (de_tup (da_cons de_int da_nil)) (da_cons (de_tup (da_cons de_int da_nil)) (da_cons (de_tup (da_cons de_str da_nil)) da_nil)))))))))))⟩
theorem ok_law {f : Addr} {fd : FuncData} (Fn : Fun K "law" "law" s_law f fd) (T : Txt K mg aKINDS) (h_check_shard_name : Has P w K mg base 3 "check_shard_name" s_check_shard_name ["value"] F_check_shard_name) (h_log_file : Has P w K mg base 1 "log_file" s_log_file ["name", "number"] F_log_file) (h_snapshot_file : Has P w K mg base 1 "snapshot_file" s_snapshot_file ["name", "number"] F_snapshot_file) (h_shard_files : Has P w K mg base 5 "shard_files" s_shard_files ["names", "name"] F_shard_files) (h__law_heap : Has P w K mg base 1 "_law_heap" s__law_heap ["script"] F__law_heap) (h__law_draw : Has P w K mg base 1 "_law_draw" s__law_draw ["heap", "many"] F__law_draw) (h__law_pick : Has P w K mg base 2 "_law_pick" s__law_pick ["heap", "some"] F__law_pick) (h__law_name : Has P w K mg base 3 "_law_name" s__law_name ["heap"] F__law_name) (h__law_number : Has P w K mg base 3 "_law_number" s__law_number ["heap"] F__law_number) (h__law_is_refused : Has P w K mg base 4 "_law_is_refused" s__law_is_refused ["value"] F__law_is_refused) (h__law_file : Has P w K mg base 4 "_law_file" s__law_file ["heap", "name", "other"] F__law_file) (len : ∀ ds M Q E, F_law ds M Q E → ds.length = 1)
    (body : ∀ ds M Q R, F_law ds M Q R → W_law { nx := fun _ M' => Q .non M', rt := Q, xr := lx R } (startE 16 ds) M) : FnG P w K mg base 6 f fd ["script"] (lift K F_law) :=
  ok_fn Fn sc_law len fun cdv A outer s H E gd hr => (dv_law T h_check_shard_name h_log_file h_snapshot_file h_shard_files h__law_heap h__law_draw h__law_pick h__law_name h__law_number h__law_is_refused h__law_file cdv A outer s H E gd hr).elim fun t ht => ⟨t, _, ht, body⟩
theorem ok__law_draw {f : Addr} {fd : FuncData} (Fn : Fun K "_law_draw" "_law_draw" s__law_draw f fd) (T : Txt K mg aKINDS) : FnG P w K mg base 1 f fd ["heap", "many"] (lift K drawF) := by
  refine fn_g Fn sc__law_draw (fun vs H Q E h => ?_) (fun cdv A outer s H vs Q E gd hr h => ?_)
  · obtain ⟨Z, ds, M, Qd, Rd, _, r, ⟨a, a0, n, rfl, _⟩, _⟩ := h
    exact r.len
  · obtain ⟨Z, ds, M, Qd, Rd, sat, r, ⟨a, a0, n, rfl, hm, hn, hn2, q⟩, kq, _⟩ := h
    cases r with
    | cons r1 r2 =>
    cases r2 with
    | cons r2 r3 =>
    cases r3
    cases r1
    cases r2
    obtain ⟨m0, cs, st, ea, e0, s0, s1, cl, cn⟩ := sat.cell a _ hm
    have d0 : Dr H a a0 cs st H := ⟨fun _ _ _ _ e => e, ea, e0, s0, s1, cl, cn⟩
    have fin : ∀ (H' : Hp) (cs' : List Int) (st' k : Int), Dr H a a0 cs' st' H' → 0 ≤ k → k < n → Q (.int k) H' := fun H' cs' st' k d h1 h2 => kq _ _ H' M (Go.drawn sat hm d.keep d.ok) (.int k) (q k h1 h2)
    have last : ∀ cs' : List Int, cs' ≠ [] → ∃ cs0 c, cs' = cs0 ++ [c] := fun cs' h => ⟨_, _, (List.dropLast_concat_getLast h).symm⟩
    have tail : ∃ t2, PSs (cxOf (L2.CX P w) P w K mg base ["heap", "many", "rest"] "_law_draw" (defScope s__law_draw) f cdv A outer s H E) (defBody s__law_draw).tail t2 ∧
        ∀ (H2 : Hp) (cs' : List Int), Dr H a a0 cs' st H2 → t2 { nx := fun _ J => Q .non J, rt := Q } [some (.ref a), some (.int n), none] H2 := by
      refine ⟨_, pss_cons (ps_if (dt_cmp (op_neG hr) sim_ne (de_ix (de_var 0) de_int) (de_lst da_nil)).pe
            (pss_cons (ps_set (i := 2) sc__law_draw.nd rfl (Or.inl rfl) (pe_bm0 PySem.F.plainAttrs_list PySem.F.slot_list_pop PySem.F.type_list_pop mt_pop (de_ix (de_var 0) de_int).pe))
              (pss_cons (ps_expr (pe_bm PySem.F.plainAttrs_list PySem.F.slot_list_append PySem.F.type_list_append mt_append (de_ix (de_var 0) de_int).pe (da_cons (de_fdiv (de_var 2) (de_var 1)) da_nil).pe))
                (pss_one (ps_ret (de_mod (de_callTy call_int1 sim_int T.z_int (by rfl) (da_cons (de_var 2) da_nil)) (de_var 1)).pe)))) pss_nil)
          (pss_cons (ds_asg (E := lw E) (de_mod (de_callTy call_int1 sim_int T.z_int (by rfl) (da_cons (de_add (de_mul (de_ix (de_var 0) de_int) de_int) de_int) da_nil)) de_int) (dg_sub (de_var 0) de_int)).pe
            (pss_one (ps_ret (de_mod (de_callTy call_int1 sim_int T.z_int (by rfl) (da_cons (de_fdiv (de_ix (de_var 0) de_int) de_int) da_nil)) (de_var 1)).pe))), fun H2 cs' d2 => ?_⟩
      refine ⟨_, rfl, ix_l d2.ha rfl ⟨Nat.zero_le _, fun p hp => ?_⟩⟩
      have d3 := d2.new (o := .lst []) hp
      refine ne_nil d3.h0 upd_same ⟨_, rfl, ?_⟩
      refine ite2 (fun hc => ?_) (fun hc => ?_)
      · obtain ⟨cs0, c, rfl⟩ := last cs' (of_decide_eq_true hc)
        have c0 : 0 ≤ c := d3.pos c (List.mem_append_right _ (List.mem_singleton.mpr rfl))
        have d4 := d3.put (cs' := cs0) (by have z := d3.len; rw [List.length_append] at z; omega) (fun x hx => d3.pos x (List.mem_append_left _ hx))
        have l4 : cs0.length < 100 := by
          have z := d3.len
          rw [List.length_append, List.length_singleton] at z
          omega
        refine ⟨_, rfl, ix_l d3.ha rfl ⟨.inl ⟨rfl, _, SqL.of d3.h0⟩, pop_last d3.h0 ?_⟩⟩
        refine ⟨_, rfl, ix_l d4.ha rfl ⟨.inl ⟨rfl, _, SqL.of d4.h0⟩, _, rfl, _, rfl, _, _, rfl, rfl, ⟨hn, hn2⟩, a0, _, _, rfl, rfl, d4.h0, by rw [List.length_map]; exact Nat.lt_of_lt_of_le l4 (by decide), ?_⟩⟩
        have d5 := d4.put (cs' := cs0 ++ [c / n]) (by rw [List.length_append, List.length_singleton]; omega) (fun x hx => by
          rcases List.mem_append.mp hx with z | z
          · exact d4.pos x z
          · rw [List.mem_singleton.mp z]
            exact Int.ediv_nonneg c0 (by omega))
        rw [List.map_append] at d5
        refine ⟨_, rfl, .inl ⟨_, rfl, _, rfl, _, _, rfl, rfl, hn, ?_⟩⟩
        exact fin _ _ _ _ d5 (Int.emod_nonneg _ (by omega)) (Int.emod_lt_of_pos _ hn)
      · refine ⟨_, rfl, ix_l d3.ha rfl ⟨_, _, rfl, rfl, .inl (.inr ⟨by decide, by decide⟩), .inl ⟨_, _, rfl, rfl, .inl ⟨_, rfl, _, _, rfl, rfl, (by show (0 : Int) < 2147483647; decide), _, rfl, a, _, _, _, rfl, rfl, d3.ha, rfl, ?_⟩⟩⟩⟩
        have d5 := d3.stir (s' := (st * 48271 + 13) % 2147483647) (Int.emod_nonneg _ (by decide)) (Int.lt_trans (Int.emod_lt_of_pos _ (by decide)) (by decide))
        exact ⟨_, rfl, ix_l d5.ha rfl ⟨_, _, rfl, rfl, ⟨(by decide), (by decide)⟩, .inl ⟨_, rfl, _, rfl, _, _, rfl, rfl, hn, fin _ _ _ _ d5 (Int.emod_nonneg _ (by omega)) (Int.emod_lt_of_pos _ hn)⟩⟩⟩
    obtain ⟨t2, ht2, out⟩ := tail
    refine ⟨_, pss_cons (ps_while (passes_of rfl) (DW.dt (dw_and (dt_cmp (op_neG hr) sim_ne (de_ix (de_var 0) de_int) (de_lst da_nil)) (dw_and1 (dt_cmp (op_eqG hr) sim_eq (de_ix (de_ix (de_var 0) de_int) (de_neg de_int)) de_int)))).pe
        (pss_one (ps_expr (pe_bm0 PySem.F.plainAttrs_list PySem.F.slot_list_pop PySem.F.type_list_pop mt_pop (de_ix (de_var 0) de_int).pe)))) ht2, ?_⟩
    refine ⟨fun m σ' H' => σ' = [some (.ref a), some (.int n), none] ∧ ∃ cs' : List Int, Dr H a a0 cs' st H' ∧ m = cs'.length, ⟨_, rfl, cs, d0, rfl⟩, ?_⟩
    rintro m σ' H' ⟨rfl, cs', d, rfl⟩
    refine ⟨_, rfl, ix_l d.ha rfl ⟨Nat.zero_le _, fun p hp => ?_⟩⟩
    have d1 := d.new (o := .lst []) hp
    refine ne_nil d1.h0 upd_same ⟨_, rfl, ?_⟩
    refine ite2 (fun hc => ?_) (fun hc => ?_)
    · obtain ⟨cs0, c, rfl⟩ := last cs' (of_decide_eq_true hc)
      refine ⟨_, rfl, ix_l d1.ha rfl ⟨_, rfl, ix_l d1.h0 at_last ?_⟩⟩
      unfold tC
      refine eq_int ⟨_, rfl, ?_⟩
      refine ite2 (fun h0 => ?_) (fun h0 => ?_)
      · have dp := d1.put (cs' := cs0) (by have z := d1.len; rw [List.length_append] at z; omega) (fun x hx => d1.pos x (List.mem_append_left _ hx))
        refine ⟨fun σ2 H2 => σ2 = [some (.ref a), some (.int n), none] ∧ Dr H a a0 cs0 st H2, fun σ2 H2 ⟨e, d2⟩ => ⟨cs0.length, by rw [List.length_append, List.length_singleton]; omega, e, cs0, d2, rfl⟩, ?_⟩
        exact ⟨_, rfl, ix_l d1.ha rfl ⟨.inl ⟨rfl, _, SqL.of d1.h0⟩, pop_last d1.h0 ⟨rfl, dp⟩⟩⟩
      · exact out _ _ d1
    · exact out _ _ d1
end
end K58
namespace K58
open PySem L2 L3
theorem AL_eq : AL = [97, 98, 99, 100, 101, 102, 103, 104, 105, 106, 107, 108, 109, 110, 111, 112, 113, 114, 115, 116, 117, 118, 119, 120, 121, 122, 48, 49, 50, 51, 52, 53, 54, 55, 56, 57] := by decide +kernel
theorem DG_eq : DG = [48, 49, 50, 51, 52, 53, 54, 55, 56, 57] := by decide +kernel
theorem dg_mem (c : Nat) : c ∈ DG ↔ 48 ≤ c ∧ c ≤ 57 := by
  rw [DG_eq]
  simp only [List.mem_cons, List.not_mem_nil, or_false]
  omega
theorem al_dot {c : Nat} (h : c ∈ AL) : c ≠ 46 := fun e => by
  subst e
  rw [AL_eq] at h
  revert h
  decide
theorem dg_al {c : Nat} (h : c ∈ DG) : c ∈ AL := by
  have z := (dg_mem c).mp h
  rw [AL_eq]
  simp only [List.mem_cons, List.not_mem_nil, or_false]
  omega
theorem numL_dg (n : Nat) : ∀ c ∈ TL.numL n, c ∈ DG := fun c hc => (dg_mem c).mpr (TL.numL_digits n c hc)
theorem numL_head : ∀ {n : Nat}, 1 ≤ n → (TL.numL n).head? ≠ some 48 := by
  intro n
  induction n using Nat.strongRecOn with
  | ind n ih =>
    intro h
    by_cases c : n < 10
    · rw [TL.numL_lt c]
      simp
      omega
    · rw [TL.numL_step (by omega)]
      have z := ih (n / 10) (by omega) (by omega)
      cases q : TL.numL (n / 10) with
      | nil => exact absurd q (TL.numL_ne _)
      | cons a as =>
        rw [q] at z
        simpa using z
theorem wd_num {n : Nat} (h : n ≤ 999999) : numeB (TL.numL n) = true := by
  have l := TL.numL_len (k := 6) (n := n) (by decide) (by omega)
  have ne := TL.numL_ne n
  have l1 : 1 ≤ (TL.numL n).length := by
    cases q : TL.numL n with
    | nil => exact absurd q ne
    | cons a as => simp
  unfold numeB wdB
  rw [Bool.and_eq_true, Bool.and_eq_true]
  refine ⟨⟨decide_eq_true ⟨by omega, by omega⟩, List.all_eq_true.mpr fun c hc => decide_eq_true (numL_dg n c hc)⟩, ?_⟩
  by_cases c : 1 ≤ n
  · simp [numL_head c]
  · have e : n = 0 := by omega
    subst e
    decide
theorem num_V (n : Nat) : numV (TL.numL n) = (n : Int) := by
  unfold numV
  rw [TL.numL_val]
theorem pre_cat (nm p r : List Nat) : (nm ++ p).isPrefixOf (nm ++ r) = p.isPrefixOf r := by
  induction nm with
  | nil => rfl
  | cons a as ih => simpa using ih
theorem nb_cat (nm p r : List Nat) : nbO (nm ++ r) (nm ++ p) = nbO r p := by
  unfold nbO
  rw [pre_cat]
  have e : (nm ++ r).drop (nm ++ p).length = r.drop p.length := by
    rw [List.length_append, ← List.drop_drop, List.drop_left]
  rw [e]
theorem nb_two (c d : Nat) (t : List Nat) : nbO (46 :: d :: t) [46, c] = if c = d ∧ numeB t = true then some (numV t) else none := by
  unfold nbO
  have e : ([46, c] : List Nat).isPrefixOf (46 :: d :: t) = (c == d) := by simp [List.isPrefixOf]
  rw [e]
  by_cases h : c = d
  · simp [h]
  · simp [h]
theorem nb_far {nm o t : List Nat} (h : o.length = nm.length + 1) (ha : ∀ c ∈ o, c ∈ AL) (c : Nat) : nbO (o ++ t) (nm ++ [46, c]) = none := by
  unfold nbO
  have e : (nm ++ [46, c]).isPrefixOf (o ++ t) = false := by
    cases q : (nm ++ [46, c]).isPrefixOf (o ++ t) with
    | false => rfl
    | true =>
      exfalso
      obtain ⟨r, hr⟩ := List.isPrefixOf_iff_prefix.mp q
      have z := congrArg (fun l : List Nat => l[nm.length]?) hr
      simp at z
      rw [List.getElem?_append_left (by omega)] at z
      have m := List.mem_of_getElem? z.symm
      exact al_dot (ha _ m) rfl
  rw [e]
  rfl
theorem nb_nil (nm : List Nat) (c : Nat) : nbO nm (nm ++ [46, c]) = none := by
  have z := nb_cat nm [46, c] []
  rw [List.append_nil] at z
  rw [z]
  rfl
theorem new_cat (nm y : List Nat) : nwB nm (y ++ NEWL) = ((nbO y (stS nm)).isSome || (nbO y (stL nm)).isSome) := by
  unfold nwB
  have e1 : (y ++ NEWL).length - 4 = y.length := by
    rw [List.length_append]
    show y.length + 4 - 4 = _
    omega
  rw [e1, List.drop_left, List.take_left]
  simp
theorem new_end (nm y : List Nat) {c : Nat} (h : c ≠ 119) : nwB nm (y ++ [c]) = false := by
  unfold nwB
  have e : decide ((y ++ [c]).drop ((y ++ [c]).length - 4) = NEWL) = false := by
    refine decide_eq_false fun z => h ?_
    have z2 := congrArg List.getLast? z
    have e3 : ((y ++ [c]).drop ((y ++ [c]).length - 4)).getLast? = some c := by
      rw [List.length_append]
      show (List.drop (y.length + 1 - 4) (y ++ [c])).getLast? = some c
      rw [List.drop_append_of_le_length (by omega)]
      simp
    rw [e3] at z2
    exact Option.some.inj z2
  rw [e]
  rfl
theorem new_four (nm y : List Nat) {d : Nat} (h : d ≠ 46) : nwB nm (y ++ [d, 110, 101, 119]) = false := by
  unfold nwB
  have e : decide ((y ++ [d, 110, 101, 119]).drop ((y ++ [d, 110, 101, 119]).length - 4) = NEWL) = false := by
    refine decide_eq_false fun z => h ?_
    have e1 : (y ++ [d, 110, 101, 119]).length - 4 = y.length := by
      rw [List.length_append]
      show y.length + 4 - 4 = _
      omega
    rw [e1, List.drop_left] at z
    exact (List.cons.inj z).1
  rw [e]
  rfl
theorem num_bad {t : List Nat} (h : ∃ c ∈ t, c ∉ DG) : numeB t = false := by
  obtain ⟨c, hc, hd⟩ := h
  unfold numeB wdB
  have e : (t.all fun c => decide (c ∈ DG)) = false := by
    cases q : t.all fun c => decide (c ∈ DG) with
    | false => rfl
    | true => exact absurd (of_decide_eq_true (List.all_eq_true.mp q c hc)) hd
  rw [e]
  simp
theorem num_zero {t : List Nat} (h : t ≠ []) : numeB (48 :: t) = false := by
  unfold numeB
  have e : decide ((48 :: t : List Nat) = [48]) = false := decide_eq_false fun z => h (List.cons.inj z).2
  rw [e]
  simp
theorem num_nil : numeB [] = false := by decide
theorem num_long {t : List Nat} (h : 6 < t.length) : numeB t = false := by
  unfold numeB wdB
  have e : decide (1 ≤ (t.length : Int) ∧ (t.length : Int) ≤ 6) = false := decide_eq_false fun z => by omega
  rw [e]
  rfl
theorem numL_last (n : Nat) : ∃ y c, TL.numL n = y ++ [c] ∧ c ∈ DG := by
  have ne := TL.numL_ne n
  exact ⟨(TL.numL n).dropLast, (TL.numL n).getLast ne, (List.dropLast_concat_getLast ne).symm, numL_dg n _ (List.getLast_mem ne)⟩
end K58
namespace K58
open PySem L2 L3
theorem fstr_i {M : Mp} {d : D} {Q : KD} (h : ∃ t, tyD M d = some t) (q : Q (.bl (match d with | .str _ => true | _ => false)) M) : fIsi [d, .ty "str"] M Q := by
  obtain ⟨t, h⟩ := h
  refine ⟨t, _, h, rfl, ?_⟩
  cases d with
  | str _ => cases h; exact q
  | tok a =>
    have h' : (match M a with | some (.lst _) => some "list" | some (.dic _ _) => some "dict" | _ => none) = some t := h
    split at h' <;> first | (cases h'; exact q) | cases h'
  | ty _ => cases h
  | exc _ _ _ _ _ => cases h
  | tpl _ => cases h
  | _ => cases h; exact q
theorem tl_S (l : List Nat) : (S l).cps.toList = l := by simp [S]
theorem len_S (l : List Nat) : (S l).length = l.length := by simp [S, Str.length]
theorem S_of (x : Str) : S x.cps.toList = x := by cases x; simp [S]
theorem len_tl (x : Str) : x.cps.toList.length = x.length := by simp [Str.length]
theorem wp_is_word_of : ∀ ds M Q R, F_is_word_of ds M Q R → W_is_word_of { nx := fun _ M' => Q .non M', rt := Q, xr := lx R } (startE 4 ds) M := by
  rintro ds M Q R ⟨d, sg, m, rfl, ⟨ht, hl⟩, q⟩
  unfold W_is_word_of
  simp (disch := first | assumption | decide) only [wSeq, wNext, wAsg, wgName, wIfS, wB, wOp, wVar, wC, wCall, wCallK, wCons, wNil, wRet, wRetN, wDrop, wTup, wLst, wIf, wAnd, wOr, wNot, wAndV, wOrV, wNotV, wNeg, wChain, fI, fI0, addD, fLt, fLe, fGt, fGe, fIsB, wCB, fAbs, f2I, fInt, fIsq, wPar, wPar3, permD, startE, List.map_cons, List.map_nil, List.cons_append, List.nil_append, List.append_nil, List.length_cons, List.length_nil, List.replicate, List.getElem?_cons_zero, List.getElem?_cons_succ, List.set_cons_zero, List.set_cons_succ, List.getD_cons_zero, List.getD_cons_succ, Nat.reduceAdd, Nat.reduceSub, Nat.zero_add, true_and, and_true, Bool.not_true, Bool.not_false, if_true, if_false, Bool.false_eq_true, reduceIte, decide_eq_true_eq, Bool.not_eq_true', decide_eq_false_iff_not, eqV_int, eqV_str, eqV_bl, decide_true, reduceCtorEq, not_true_eq_false, not_false_eq_true, Bool.not_eq_true, List.not_mem_nil, false_implies, implies_true, Int.reduceNeg, Int.reduceToNat, Int.reducePow, Int.reduceMul, Int.reduceAdd, draw_i, ix_t0, ix_t1, ix_t2, ix_t3, ix_m3, ix_m4, sn_ball_box, sn_cell_box, sn_cell_ball, sn_ball_cell, sn_box_ball, sn_box_cell, decide_false]
  refine fstr_i ht ?_
  cases d with
  | str x =>
    have l := hl x rfl
    simp (disch := first | assumption | decide) only [wSeq, wNext, wAsg, wgName, wIfS, wB, wOp, wVar, wC, wCall, wCallK, wCons, wNil, wRet, wRetN, wDrop, wTup, wLst, wIf, wAnd, wOr, wNot, wAndV, wOrV, wNotV, wNeg, wChain, fI, fI0, addD, fLt, fLe, fGt, fGe, fIsB, wCB, fAbs, f2I, fInt, fIsq, wPar, wPar3, permD, startE, List.map_cons, List.map_nil, List.cons_append, List.nil_append, List.append_nil, List.length_cons, List.length_nil, List.replicate, List.getElem?_cons_zero, List.getElem?_cons_succ, List.set_cons_zero, List.set_cons_succ, List.getD_cons_zero, List.getD_cons_succ, Nat.reduceAdd, Nat.reduceSub, Nat.zero_add, true_and, and_true, Bool.not_true, Bool.not_false, if_true, if_false, Bool.false_eq_true, reduceIte, decide_eq_true_eq, Bool.not_eq_true', decide_eq_false_iff_not, eqV_int, eqV_str, eqV_bl, decide_true, reduceCtorEq, not_true_eq_false, not_false_eq_true, Bool.not_eq_true, List.not_mem_nil, false_implies, implies_true, Int.reduceNeg, Int.reduceToNat, Int.reducePow, Int.reduceMul, Int.reduceAdd, draw_i, ix_t0, ix_t1, ix_t2, ix_t3, ix_m3, ix_m4, sn_ball_box, sn_cell_box, sn_cell_ball, sn_ball_cell, sn_box_ball, sn_box_cell, decide_false, fLen, wiStr, tx]
    have sz : x.length ≤ sizeLine := Nat.le_trans l (by decide)
    refine ⟨sz, ?_⟩
    have fin : ∀ b : Bool, b = wordB sg m (.str x) → Q (.bl b) M := fun b e => by rw [e]; exact q
    by_cases h1 : 1 ≤ (x.length : Int)
    · rw [decide_eq_true h1]
      by_cases h2 : (x.length : Int) ≤ m
      · rw [decide_eq_true h2]
        simp (disch := first | assumption | decide) only [wSeq, wNext, wAsg, wgName, wIfS, wB, wOp, wVar, wC, wCall, wCallK, wCons, wNil, wRet, wRetN, wDrop, wTup, wLst, wIf, wAnd, wOr, wNot, wAndV, wOrV, wNotV, wNeg, wChain, fI, fI0, addD, fLt, fLe, fGt, fGe, fIsB, wCB, fAbs, f2I, fInt, fIsq, wPar, wPar3, permD, startE, List.map_cons, List.map_nil, List.cons_append, List.nil_append, List.append_nil, List.length_cons, List.length_nil, List.replicate, List.getElem?_cons_zero, List.getElem?_cons_succ, List.set_cons_zero, List.set_cons_succ, List.getD_cons_zero, List.getD_cons_succ, Nat.reduceAdd, Nat.reduceSub, Nat.zero_add, true_and, and_true, Bool.not_true, Bool.not_false, if_true, if_false, Bool.false_eq_true, reduceIte, decide_eq_true_eq, Bool.not_eq_true', decide_eq_false_iff_not, eqV_int, eqV_str, eqV_bl, decide_true, reduceCtorEq, not_true_eq_false, not_false_eq_true, Bool.not_eq_true, List.not_mem_nil, false_implies, implies_true, Int.reduceNeg, Int.reduceToNat, Int.reducePow, Int.reduceMul, Int.reduceAdd, draw_i, ix_t0, ix_t1, ix_t2, ix_t3, ix_m3, ix_m4, sn_ball_box, sn_cell_box, sn_cell_ball, sn_ball_cell, sn_box_ball, sn_box_cell, decide_false, wLc, wipeE]
        refine lc_map (fun c : Nat => D.str ⟨#[c]⟩) (fun c => .bl (decide (c ∈ sg))) (show AnyM M from True.intro) x.cps.toList [] (by rw [len_tl]; simp only [List.length_nil]; omega) (fun c hc K hK => ?_) ?_
        · simp (disch := first | assumption | decide) only [wSeq, wNext, wAsg, wgName, wIfS, wB, wOp, wVar, wC, wCall, wCallK, wCons, wNil, wRet, wRetN, wDrop, wTup, wLst, wIf, wAnd, wOr, wNot, wAndV, wOrV, wNotV, wNeg, wChain, fI, fI0, addD, fLt, fLe, fGt, fGe, fIsB, wCB, fAbs, f2I, fInt, fIsq, wPar, wPar3, permD, startE, List.map_cons, List.map_nil, List.cons_append, List.nil_append, List.append_nil, List.length_cons, List.length_nil, List.replicate, List.getElem?_cons_zero, List.getElem?_cons_succ, List.set_cons_zero, List.set_cons_succ, List.getD_cons_zero, List.getD_cons_succ, Nat.reduceAdd, Nat.reduceSub, Nat.zero_add, true_and, and_true, Bool.not_true, Bool.not_false, if_true, if_false, Bool.false_eq_true, reduceIte, decide_eq_true_eq, Bool.not_eq_true', decide_eq_false_iff_not, eqV_int, eqV_str, eqV_bl, decide_true, reduceCtorEq, not_true_eq_false, not_false_eq_true, Bool.not_eq_true, List.not_mem_nil, false_implies, implies_true, Int.reduceNeg, Int.reduceToNat, Int.reducePow, Int.reduceMul, Int.reduceAdd, draw_i, ix_t0, ix_t1, ix_t2, ix_t3, ix_m3, ix_m4, sn_ball_box, sn_cell_box, sn_cell_ball, sn_ball_cell, sn_box_ball, sn_box_cell, decide_false, fInC]
          exact ⟨c, rfl, hK⟩
        · simp (disch := first | assumption | decide) only [wSeq, wNext, wAsg, wgName, wIfS, wB, wOp, wVar, wC, wCall, wCallK, wCons, wNil, wRet, wRetN, wDrop, wTup, wLst, wIf, wAnd, wOr, wNot, wAndV, wOrV, wNotV, wNeg, wChain, fI, fI0, addD, fLt, fLe, fGt, fGe, fIsB, wCB, fAbs, f2I, fInt, fIsq, wPar, wPar3, permD, startE, List.map_cons, List.map_nil, List.cons_append, List.nil_append, List.append_nil, List.length_cons, List.length_nil, List.replicate, List.getElem?_cons_zero, List.getElem?_cons_succ, List.set_cons_zero, List.set_cons_succ, List.getD_cons_zero, List.getD_cons_succ, Nat.reduceAdd, Nat.reduceSub, Nat.zero_add, true_and, and_true, Bool.not_true, Bool.not_false, if_true, if_false, Bool.false_eq_true, reduceIte, decide_eq_true_eq, Bool.not_eq_true', decide_eq_false_iff_not, eqV_int, eqV_str, eqV_bl, decide_true, reduceCtorEq, not_true_eq_false, not_false_eq_true, Bool.not_eq_true, List.not_mem_nil, false_implies, implies_true, Int.reduceNeg, Int.reduceToNat, Int.reducePow, Int.reduceMul, Int.reduceAdd, draw_i, ix_t0, ix_t1, ix_t2, ix_t3, ix_m3, ix_m4, sn_ball_box, sn_cell_box, sn_cell_ball, sn_ball_cell, sn_box_ball, sn_box_cell, decide_false, fBls]
          refine ⟨x.cps.toList.map fun c => decide (c ∈ sg), ⟨0, .inr (by rw [List.map_map]; rfl)⟩, by rw [List.map_map]; rfl, fin _ ?_⟩
          show _ = wdB sg m x.cps.toList
          unfold wdB
          rw [len_tl, decide_eq_true ⟨h1, h2⟩, List.all_map]
          rfl
      · rw [decide_eq_false h2]
        refine fin false ?_
        show false = wdB sg m x.cps.toList
        unfold wdB
        rw [len_tl, decide_eq_false fun z => h2 z.2]
        rfl
    · rw [decide_eq_false h1]
      refine fin false ?_
      show false = wdB sg m x.cps.toList
      unfold wdB
      rw [len_tl, decide_eq_false fun z => h1 z.1]
      rfl
  | _ => simp (disch := first | assumption | decide) only [wSeq, wNext, wAsg, wgName, wIfS, wB, wOp, wVar, wC, wCall, wCallK, wCons, wNil, wRet, wRetN, wDrop, wTup, wLst, wIf, wAnd, wOr, wNot, wAndV, wOrV, wNotV, wNeg, wChain, fI, fI0, addD, fLt, fLe, fGt, fGe, fIsB, wCB, fAbs, f2I, fInt, fIsq, wPar, wPar3, permD, startE, List.map_cons, List.map_nil, List.cons_append, List.nil_append, List.append_nil, List.length_cons, List.length_nil, List.replicate, List.getElem?_cons_zero, List.getElem?_cons_succ, List.set_cons_zero, List.set_cons_succ, List.getD_cons_zero, List.getD_cons_succ, Nat.reduceAdd, Nat.reduceSub, Nat.zero_add, true_and, and_true, Bool.not_true, Bool.not_false, if_true, if_false, Bool.false_eq_true, reduceIte, decide_eq_true_eq, Bool.not_eq_true', decide_eq_false_iff_not, eqV_int, eqV_str, eqV_bl, decide_true, reduceCtorEq, not_true_eq_false, not_false_eq_true, Bool.not_eq_true, List.not_mem_nil, false_implies, implies_true, Int.reduceNeg, Int.reduceToNat, Int.reducePow, Int.reduceMul, Int.reduceAdd, draw_i, ix_t0, ix_t1, ix_t2, ix_t3, ix_m3, ix_m4, sn_ball_box, sn_cell_box, sn_cell_ball, sn_ball_cell, sn_box_ball, sn_box_cell, decide_false]; exact q
theorem word_i {M : Mp} {d : D} {sg : List Nat} {m : Int} {Q : KD} {R} (h : tyS M d) (q : Q (.bl (wordB sg m d)) M) : F_is_word_of [d, tx sg, .int m] M Q R := ⟨d, sg, m, rfl, h, q⟩
theorem tyS_tx {M : Mp} {l : List Nat} (h : l.length ≤ 1000) : tyS M (tx l) := ⟨⟨_, rfl⟩, fun x e => by
  cases e
  rw [len_S]
  exact h⟩
theorem word_tx (sg : List Nat) (m : Int) (l : List Nat) : wordB sg m (tx l) = wdB sg m l := by
  show wdB sg m (S l).cps.toList = _
  rw [tl_S]
theorem S_eq (a b : List Nat) : decide (S a = S b) = decide (a = b) := by
  by_cases h : a = b
  · rw [h]; simp
  · rw [decide_eq_false h, decide_eq_false fun e => h (by have z := congrArg (fun x : Str => x.cps.toList) e; simpa [S] using z)]
theorem at_zero {α : Type} (c : α) (l : List α) : atI (c :: l) 0 = some c := by
  have e : ixN (c :: l).length 0 = some 0 := by
    unfold ixN
    simp
  unfold atI
  rw [e]
  rfl
theorem S_inj {a b : List Nat} (h : S a = S b) : a = b := by
  have z := congrArg (fun x : Str => x.cps.toList) h
  simpa [S] using z
theorem wp_is_numeral : ∀ ds M Q R, F_is_numeral ds M Q R → W_is_numeral { nx := fun _ M' => Q .non M', rt := Q, xr := lx R } (startE 2 ds) M := by
  rintro ds M Q R ⟨l, rfl, hl, q⟩
  unfold W_is_numeral
  simp (disch := first | assumption | decide) only [wSeq, wNext, wAsg, wgName, wIfS, wB, wOp, wVar, wC, wCall, wCallK, wCons, wNil, wRet, wRetN, wDrop, wTup, wLst, wIf, wAnd, wOr, wNot, wAndV, wOrV, wNotV, wNeg, wChain, fI, fI0, addD, fLt, fLe, fGt, fGe, fIsB, wCB, fAbs, f2I, fInt, fIsq, wPar, wPar3, permD, startE, List.map_cons, List.map_nil, List.cons_append, List.nil_append, List.append_nil, List.length_cons, List.length_nil, List.replicate, List.getElem?_cons_zero, List.getElem?_cons_succ, List.set_cons_zero, List.set_cons_succ, List.getD_cons_zero, List.getD_cons_succ, Nat.reduceAdd, Nat.reduceSub, Nat.zero_add, true_and, and_true, Bool.not_true, Bool.not_false, if_true, if_false, Bool.false_eq_true, reduceIte, decide_eq_true_eq, Bool.not_eq_true', decide_eq_false_iff_not, eqV_int, eqV_str, eqV_bl, decide_true, reduceCtorEq, not_true_eq_false, not_false_eq_true, Bool.not_eq_true, List.not_mem_nil, false_implies, implies_true, Int.reduceNeg, Int.reduceToNat, Int.reducePow, Int.reduceMul, Int.reduceAdd, draw_i, ix_t0, ix_t1, ix_t2, ix_t3, ix_m3, ix_m4, sn_ball_box, sn_cell_box, sn_cell_ball, sn_ball_cell, sn_box_ball, sn_box_cell, decide_false]
  have e0 : (D.str ("0123456789" : Str)) = tx DG := rfl
  rw [e0]
  refine word_i (tyS_tx hl) ?_
  rw [word_tx]
  have fin : ∀ b : Bool, b = numeB l → Q (.bl b) M := fun b e => by rw [e]; exact q
  cases h : wdB DG 6 l with
  | false =>
    simp (disch := first | assumption | decide) only [wSeq, wNext, wAsg, wgName, wIfS, wB, wOp, wVar, wC, wCall, wCallK, wCons, wNil, wRet, wRetN, wDrop, wTup, wLst, wIf, wAnd, wOr, wNot, wAndV, wOrV, wNotV, wNeg, wChain, fI, fI0, addD, fLt, fLe, fGt, fGe, fIsB, wCB, fAbs, f2I, fInt, fIsq, wPar, wPar3, permD, startE, List.map_cons, List.map_nil, List.cons_append, List.nil_append, List.append_nil, List.length_cons, List.length_nil, List.replicate, List.getElem?_cons_zero, List.getElem?_cons_succ, List.set_cons_zero, List.set_cons_succ, List.getD_cons_zero, List.getD_cons_succ, Nat.reduceAdd, Nat.reduceSub, Nat.zero_add, true_and, and_true, Bool.not_true, Bool.not_false, if_true, if_false, Bool.false_eq_true, reduceIte, decide_eq_true_eq, Bool.not_eq_true', decide_eq_false_iff_not, eqV_int, eqV_str, eqV_bl, decide_true, reduceCtorEq, not_true_eq_false, not_false_eq_true, Bool.not_eq_true, List.not_mem_nil, false_implies, implies_true, Int.reduceNeg, Int.reduceToNat, Int.reducePow, Int.reduceMul, Int.reduceAdd, draw_i, ix_t0, ix_t1, ix_t2, ix_t3, ix_m3, ix_m4, sn_ball_box, sn_cell_box, sn_cell_ball, sn_ball_cell, sn_box_ball, sn_box_cell, decide_false]
    refine fin false ?_
    unfold numeB
    rw [h]
    rfl
  | true =>
    simp (disch := first | assumption | decide) only [wSeq, wNext, wAsg, wgName, wIfS, wB, wOp, wVar, wC, wCall, wCallK, wCons, wNil, wRet, wRetN, wDrop, wTup, wLst, wIf, wAnd, wOr, wNot, wAndV, wOrV, wNotV, wNeg, wChain, fI, fI0, addD, fLt, fLe, fGt, fGe, fIsB, wCB, fAbs, f2I, fInt, fIsq, wPar, wPar3, permD, startE, List.map_cons, List.map_nil, List.cons_append, List.nil_append, List.append_nil, List.length_cons, List.length_nil, List.replicate, List.getElem?_cons_zero, List.getElem?_cons_succ, List.set_cons_zero, List.set_cons_succ, List.getD_cons_zero, List.getD_cons_succ, Nat.reduceAdd, Nat.reduceSub, Nat.zero_add, true_and, and_true, Bool.not_true, Bool.not_false, if_true, if_false, Bool.false_eq_true, reduceIte, decide_eq_true_eq, Bool.not_eq_true', decide_eq_false_iff_not, eqV_int, eqV_str, eqV_bl, decide_true, reduceCtorEq, not_true_eq_false, not_false_eq_true, Bool.not_eq_true, List.not_mem_nil, false_implies, implies_true, Int.reduceNeg, Int.reduceToNat, Int.reducePow, Int.reduceMul, Int.reduceAdd, draw_i, ix_t0, ix_t1, ix_t2, ix_t3, ix_m3, ix_m4, sn_ball_box, sn_cell_box, sn_cell_ball, sn_ball_cell, sn_box_ball, sn_box_cell, decide_false]
    cases l with
    | nil => cases h
    | cons c l =>
      simp (disch := first | assumption | decide) only [wSeq, wNext, wAsg, wgName, wIfS, wB, wOp, wVar, wC, wCall, wCallK, wCons, wNil, wRet, wRetN, wDrop, wTup, wLst, wIf, wAnd, wOr, wNot, wAndV, wOrV, wNotV, wNeg, wChain, fI, fI0, addD, fLt, fLe, fGt, fGe, fIsB, wCB, fAbs, f2I, fInt, fIsq, wPar, wPar3, permD, startE, List.map_cons, List.map_nil, List.cons_append, List.nil_append, List.append_nil, List.length_cons, List.length_nil, List.replicate, List.getElem?_cons_zero, List.getElem?_cons_succ, List.set_cons_zero, List.set_cons_succ, List.getD_cons_zero, List.getD_cons_succ, Nat.reduceAdd, Nat.reduceSub, Nat.zero_add, true_and, and_true, Bool.not_true, Bool.not_false, if_true, if_false, Bool.false_eq_true, reduceIte, decide_eq_true_eq, Bool.not_eq_true', decide_eq_false_iff_not, eqV_int, eqV_str, eqV_bl, decide_true, reduceCtorEq, not_true_eq_false, not_false_eq_true, Bool.not_eq_true, List.not_mem_nil, false_implies, implies_true, Int.reduceNeg, Int.reduceToNat, Int.reducePow, Int.reduceMul, Int.reduceAdd, draw_i, ix_t0, ix_t1, ix_t2, ix_t3, ix_m3, ix_m4, sn_ball_box, sn_cell_box, sn_cell_ball, sn_ball_cell, sn_box_ball, sn_box_cell, decide_false, tx, ixD]
      refine ⟨by rw [len_S]; exact Nat.le_trans hl (by decide), c, at_zero c l, ?_⟩
      have e1 : decide (({ cps := #[c] } : Str) = Str.ofString "0") = decide (c = 48) := by
        have z := S_eq [c] [48]
        have z2 : decide ([c] = [48]) = decide (c = 48) := by simp
        rw [z2] at z
        exact z
      have e2 : decide (S (c :: l) = Str.ofString "0") = decide (c :: l = [48]) := S_eq (c :: l) [48]
      rw [e1, e2]
      by_cases h2 : c = 48
      · rw [decide_eq_true h2]
        show Q (D.bl (decide (c :: l = [48]))) M
        refine fin _ ?_
        unfold numeB
        rw [h]
        simp [h2]
      · rw [decide_eq_false h2]
        show Q (D.bl true) M
        refine fin _ ?_
        unfold numeB
        rw [h]
        simp [h2]
theorem nume_i {M : Mp} {l : List Nat} {Q : KD} {R} (h : l.length ≤ 1000) (q : Q (.bl (numeB l)) M) : F_is_numeral [tx l, .int 6] M Q R := ⟨l, rfl, h, q⟩
theorem cat_S (a b : List Nat) : S a ++ S b = S (a ++ b) := SX.S_cat a b
theorem wp_check_shard_name : ∀ ds M Q R, F_check_shard_name ds M Q R → W_check_shard_name { nx := fun _ M' => Q .non M', rt := Q, xr := lx R } (startE 1 ds) M := by
  rintro ds M Q R ⟨d, rfl, hd, q⟩
  unfold W_check_shard_name
  simp (disch := first | assumption | decide) only [wSeq, wNext, wAsg, wgName, wIfS, wB, wOp, wVar, wC, wCall, wCallK, wCons, wNil, wRet, wRetN, wDrop, wTup, wLst, wIf, wAnd, wOr, wNot, wAndV, wOrV, wNotV, wNeg, wChain, fI, fI0, addD, fLt, fLe, fGt, fGe, fIsB, wCB, fAbs, f2I, fInt, fIsq, wPar, wPar3, permD, startE, List.map_cons, List.map_nil, List.cons_append, List.nil_append, List.append_nil, List.length_cons, List.length_nil, List.replicate, List.getElem?_cons_zero, List.getElem?_cons_succ, List.set_cons_zero, List.set_cons_succ, List.getD_cons_zero, List.getD_cons_succ, Nat.reduceAdd, Nat.reduceSub, Nat.zero_add, true_and, and_true, Bool.not_true, Bool.not_false, if_true, if_false, Bool.false_eq_true, reduceIte, decide_eq_true_eq, Bool.not_eq_true', decide_eq_false_iff_not, eqV_int, eqV_str, eqV_bl, decide_true, reduceCtorEq, not_true_eq_false, not_false_eq_true, Bool.not_eq_true, List.not_mem_nil, false_implies, implies_true, Int.reduceNeg, Int.reduceToNat, Int.reducePow, Int.reduceMul, Int.reduceAdd, draw_i, ix_t0, ix_t1, ix_t2, ix_t3, ix_m3, ix_m4, sn_ball_box, sn_cell_box, sn_cell_ball, sn_ball_cell, sn_box_ball, sn_box_cell, decide_false]
  refine ⟨by decide, ?_⟩
  have e0 : (D.str (Str.ofString "abcdefghijklmnopqrstuvwxyz" ++ Str.ofString "0123456789")) = tx AL := by
    show D.str _ = D.str _
    exact congrArg D.str (by decide +kernel)
  rw [e0]
  refine word_i hd ?_
  cases h : wordB AL 8 d with
  | true =>
    rw [h, if_pos rfl] at q
    simp (disch := first | assumption | decide) only [wSeq, wNext, wAsg, wgName, wIfS, wB, wOp, wVar, wC, wCall, wCallK, wCons, wNil, wRet, wRetN, wDrop, wTup, wLst, wIf, wAnd, wOr, wNot, wAndV, wOrV, wNotV, wNeg, wChain, fI, fI0, addD, fLt, fLe, fGt, fGe, fIsB, wCB, fAbs, f2I, fInt, fIsq, wPar, wPar3, permD, startE, List.map_cons, List.map_nil, List.cons_append, List.nil_append, List.append_nil, List.length_cons, List.length_nil, List.replicate, List.getElem?_cons_zero, List.getElem?_cons_succ, List.set_cons_zero, List.set_cons_succ, List.getD_cons_zero, List.getD_cons_succ, Nat.reduceAdd, Nat.reduceSub, Nat.zero_add, true_and, and_true, Bool.not_true, Bool.not_false, if_true, if_false, Bool.false_eq_true, reduceIte, decide_eq_true_eq, Bool.not_eq_true', decide_eq_false_iff_not, eqV_int, eqV_str, eqV_bl, decide_true, reduceCtorEq, not_true_eq_false, not_false_eq_true, Bool.not_eq_true, List.not_mem_nil, false_implies, implies_true, Int.reduceNeg, Int.reduceToNat, Int.reducePow, Int.reduceMul, Int.reduceAdd, draw_i, ix_t0, ix_t1, ix_t2, ix_t3, ix_m3, ix_m4, sn_ball_box, sn_cell_box, sn_cell_ball, sn_ball_cell, sn_box_ball, sn_box_cell, decide_false]
    exact q
  | false =>
    rw [h, if_neg (by decide)] at q
    simp (disch := first | assumption | decide) only [wSeq, wNext, wAsg, wgName, wIfS, wB, wOp, wVar, wC, wCall, wCallK, wCons, wNil, wRet, wRetN, wDrop, wTup, wLst, wIf, wAnd, wOr, wNot, wAndV, wOrV, wNotV, wNeg, wChain, fI, fI0, addD, fLt, fLe, fGt, fGe, fIsB, wCB, fAbs, f2I, fInt, fIsq, wPar, wPar3, permD, startE, List.map_cons, List.map_nil, List.cons_append, List.nil_append, List.append_nil, List.length_cons, List.length_nil, List.replicate, List.getElem?_cons_zero, List.getElem?_cons_succ, List.set_cons_zero, List.set_cons_succ, List.getD_cons_zero, List.getD_cons_succ, Nat.reduceAdd, Nat.reduceSub, Nat.zero_add, true_and, and_true, Bool.not_true, Bool.not_false, if_true, if_false, Bool.false_eq_true, reduceIte, decide_eq_true_eq, Bool.not_eq_true', decide_eq_false_iff_not, eqV_int, eqV_str, eqV_bl, decide_true, reduceCtorEq, not_true_eq_false, not_false_eq_true, Bool.not_eq_true, List.not_mem_nil, false_implies, implies_true, Int.reduceNeg, Int.reduceToNat, Int.reducePow, Int.reduceMul, Int.reduceAdd, draw_i, ix_t0, ix_t1, ix_t2, ix_t3, ix_m3, ix_m4, sn_ball_box, sn_cell_box, sn_cell_ball, sn_ball_cell, sn_box_ball, sn_box_cell, decide_false, wRaise]
    exact ⟨by decide, fun dx => q⟩
theorem num_tx (n : Nat) : (Str.ofString (toString ((n : Nat) : Int)) : Str) = S (TL.numL n) := SX.num_S n
theorem numL_le {n : Nat} (h : n ≤ 999999) : (TL.numL n).length ≤ 6 := TL.numL_len (by decide) (by omega)
theorem num_fit {n : Nat} (h : n ≤ 999999) : ((n : Int).natAbs.log2 < 1920) := by
  have e : (n : Int).natAbs = n := rfl
  rw [e]
  rcases Nat.eq_zero_or_pos n with h0 | h0
  · subst h0
    decide
  · refine (Nat.log2_lt (by omega)).mpr (Nat.lt_of_le_of_lt h ?_)
    exact Nat.lt_of_lt_of_le (by decide : 999999 < 2 ^ 20) (Nat.pow_le_pow_right (by decide) (by decide))
theorem js_two {x nm : List Nat} {n : Nat} {M : Mp} {Q : KD} (hl : nm.length ≤ 100) (h2 : x.length = 2) (hn : n ≤ 999999) (q : Q (tx (nm ++ x ++ TL.numL n)) M) : wJs [wFmt (wVar 0), wC (.str (S x)), wFmt (wVar 1)] Str.empty [some (tx nm), some (.int (n : Int))] M Q := by
  have l6 := numL_le hn
  have e0 : Str.empty ++ S nm = S nm := cat_S [] nm
  have sm : ∀ y : List Nat, y.length ≤ 200 → (S y).length ≤ sizeLine := fun y hy => by
    rw [len_S]
    exact Nat.le_trans hy (by decide)
  refine ⟨sm _ (by omega), ?_⟩
  show (Str.empty ++ S nm).length ≤ sizeLine ∧ _
  rw [e0]
  refine ⟨sm _ (by omega), ?_⟩
  show (S nm ++ S x).length ≤ sizeLine ∧ _
  rw [cat_S]
  refine ⟨sm _ (by rw [List.length_append]; omega), num_fit hn, ?_⟩
  show (S (nm ++ x) ++ Str.ofString (toString (n : Int))).length ≤ sizeLine ∧ _
  rw [num_tx, cat_S]
  exact ⟨sm _ (by rw [List.length_append, List.length_append]; omega), q⟩
theorem wp_log_file : ∀ ds M Q R, F_log_file ds M Q R → W_log_file { nx := fun _ M' => Q .non M', rt := Q, xr := lx R } (startE 2 ds) M := by
  rintro ds M Q R ⟨nm, n, rfl, hl, hn, q⟩
  exact js_two (x := [46, 108]) hl rfl hn q
theorem wp_snapshot_file : ∀ ds M Q R, F_snapshot_file ds M Q R → W_snapshot_file { nx := fun _ M' => Q .non M', rt := Q, xr := lx R } (startE 2 ds) M := by
  rintro ds M Q R ⟨nm, n, rfl, hl, hn, q⟩
  exact js_two (x := [46, 115]) hl rfl hn q
theorem starts_S (x y : List Nat) : Txt.startswith (S x) (S y) = y.isPrefixOf x := by
  unfold Txt.startswith
  rw [StrLaws.subAt_eq, len_S, len_S]
  simp only [tl_S, List.drop_zero, Nat.zero_add]
  cases q : y.isPrefixOf x with
  | true =>
    obtain ⟨r, rfl⟩ := List.isPrefixOf_iff_prefix.mp q
    simp
  | false =>
    by_cases h : x.take y.length = y
    · have z : y <+: x := ⟨x.drop y.length, by
        have := List.take_append_drop y.length x
        rw [h] at this
        exact this⟩
      rw [List.isPrefixOf_iff_prefix.mpr z] at q
      cases q
    · have e : (x.take y.length == y) = false := by simpa using h
      rw [e, Bool.and_false]
theorem ends_S (x y : List Nat) (hy : 0 < y.length) : Txt.endswith (S x) (S y) = decide (x.drop (x.length - y.length) = y) := by
  unfold Txt.endswith
  rw [StrLaws.subAt_eq, len_S, len_S]
  simp only [tl_S, Nat.zero_add]
  by_cases h : x.drop (x.length - y.length) = y
  · have l := congrArg List.length h
    rw [List.length_drop] at l
    rw [decide_eq_true h, h, decide_eq_true (by omega : y.length ≤ x.length)]
    simp
  · rw [decide_eq_false h]
    by_cases l : y.length ≤ x.length
    · have e : List.take y.length (x.drop (x.length - y.length)) = x.drop (x.length - y.length) := List.take_of_length_le (by rw [List.length_drop]; omega)
      rw [e]
      have e2 : (x.drop (x.length - y.length) == y) = false := by simpa using h
      rw [e2, Bool.and_false]
    · rw [decide_eq_false l]
      rfl
theorem cut_from (x : List Nat) (k : Nat) : cutS (S x) (some (k : Int)) none = S (x.drop k) := by
  have e : HT.sIx x.length 0 (some (k : Int)) = min k x.length := by
    show (if (k : Int) < 0 then ((k : Int) + (x.length : Int)).toNat else min (k : Int).toNat x.length) = _
    rw [if_neg (by omega), Int.toNat_natCast]
  have e2 : HT.sIx x.length x.length none = x.length := rfl
  unfold cutS
  rw [len_S, tl_S, e, e2]
  show S _ = S _
  congr 1
  by_cases h : k ≤ x.length
  · rw [Nat.min_eq_left h, List.take_of_length_le (by rw [List.length_drop]; omega)]
  · rw [Nat.min_eq_right (by omega), List.drop_of_length_le (Nat.le_refl _), List.drop_of_length_le (by omega)]
    simp
theorem cut_to (x : List Nat) (k : Nat) (hk : 0 < k) : cutS (S x) none (some (-(k : Int))) = S (x.take (x.length - k)) := by
  have e : HT.sIx x.length x.length (some (-(k : Int))) = x.length - k := by
    show (if -(k : Int) < 0 then (-(k : Int) + (x.length : Int)).toNat else min (-(k : Int)).toNat x.length) = _
    rw [if_pos (by omega)]
    omega
  have e2 : HT.sIx x.length 0 none = 0 := rfl
  unfold cutS
  rw [len_S, tl_S, e, e2]
  show S _ = S _
  rw [List.drop_zero, Nat.sub_zero]
theorem dg_all {l : List Nat} (h : numeB l = true) : (l.all fun c => decide (48 ≤ c) && decide (c ≤ 57)) = true ∧ l ≠ [] ∧ l.length ≤ 6 := by
  unfold numeB wdB at h
  rw [Bool.and_eq_true, Bool.and_eq_true, decide_eq_true_eq] at h
  obtain ⟨⟨⟨h1, h2⟩, h3⟩, _⟩ := h
  refine ⟨List.all_eq_true.mpr fun c hc => ?_, fun e => by subst e; simp at h1, by omega⟩
  have z := (dg_mem c).mp (of_decide_eq_true (List.all_eq_true.mp h3 c hc))
  simp [z.1, z.2]
theorem int_tx {l : List Nat} (h : numeB l = true) : PySem.intText? (S l) = some (numV l) := by
  obtain ⟨h1, h2, h3⟩ := dg_all h
  exact SX.int_S h1 h2 (by omega)
theorem wp_number_behind : ∀ ds M Q R, F_number_behind ds M Q R → W_number_behind { nx := fun _ M' => Q .non M', rt := Q, xr := lx R } (startE 3 ds) M := by
  rintro ds M Q R ⟨x, st, rfl, hx, hs, q⟩
  unfold W_number_behind
  have sm : ∀ y : List Nat, y.length ≤ 200 → (S y).length ≤ sizeLine := fun y hy => by
    rw [len_S]
    exact Nat.le_trans hy (by decide)
  simp (disch := first | assumption | decide) only [wSeq, wNext, wAsg, wgName, wIfS, wB, wOp, wVar, wC, wCall, wCallK, wCons, wNil, wRet, wRetN, wDrop, wTup, wLst, wIf, wAnd, wOr, wNot, wAndV, wOrV, wNotV, wNeg, wChain, fI, fI0, addD, fLt, fLe, fGt, fGe, fIsB, wCB, fAbs, f2I, fInt, fIsq, wPar, wPar3, permD, startE, List.map_cons, List.map_nil, List.cons_append, List.nil_append, List.append_nil, List.length_cons, List.length_nil, List.replicate, List.getElem?_cons_zero, List.getElem?_cons_succ, List.set_cons_zero, List.set_cons_succ, List.getD_cons_zero, List.getD_cons_succ, Nat.reduceAdd, Nat.reduceSub, Nat.zero_add, true_and, and_true, Bool.not_true, Bool.not_false, if_true, if_false, Bool.false_eq_true, reduceIte, decide_eq_true_eq, Bool.not_eq_true', decide_eq_false_iff_not, eqV_int, eqV_str, eqV_bl, decide_true, reduceCtorEq, not_true_eq_false, not_false_eq_true, Bool.not_eq_true, List.not_mem_nil, false_implies, implies_true, Int.reduceNeg, Int.reduceToNat, Int.reducePow, Int.reduceMul, Int.reduceAdd, draw_i, ix_t0, ix_t1, ix_t2, ix_t3, ix_m3, ix_m4, sn_ball_box, sn_cell_box, sn_cell_ball, sn_ball_cell, sn_box_ball, sn_box_cell, decide_false, wSl, wPart, wNoP, fLen, tx]
  refine ⟨sm _ (by omega), ?_⟩
  simp (disch := first | assumption | decide) only [wSeq, wNext, wAsg, wgName, wIfS, wB, wOp, wVar, wC, wCall, wCallK, wCons, wNil, wRet, wRetN, wDrop, wTup, wLst, wIf, wAnd, wOr, wNot, wAndV, wOrV, wNotV, wNeg, wChain, fI, fI0, addD, fLt, fLe, fGt, fGe, fIsB, wCB, fAbs, f2I, fInt, fIsq, wPar, wPar3, permD, startE, List.map_cons, List.map_nil, List.cons_append, List.nil_append, List.append_nil, List.length_cons, List.length_nil, List.replicate, List.getElem?_cons_zero, List.getElem?_cons_succ, List.set_cons_zero, List.set_cons_succ, List.getD_cons_zero, List.getD_cons_succ, Nat.reduceAdd, Nat.reduceSub, Nat.zero_add, true_and, and_true, Bool.not_true, Bool.not_false, if_true, if_false, Bool.false_eq_true, reduceIte, decide_eq_true_eq, Bool.not_eq_true', decide_eq_false_iff_not, eqV_int, eqV_str, eqV_bl, decide_true, reduceCtorEq, not_true_eq_false, not_false_eq_true, Bool.not_eq_true, List.not_mem_nil, false_implies, implies_true, Int.reduceNeg, Int.reduceToNat, Int.reducePow, Int.reduceMul, Int.reduceAdd, draw_i, ix_t0, ix_t1, ix_t2, ix_t3, ix_m3, ix_m4, sn_ball_box, sn_cell_box, sn_cell_ball, sn_ball_cell, sn_box_ball, sn_box_cell, decide_false, slD]
  refine ⟨sm _ (by omega), ?_⟩
  rw [len_S, cut_from]
  refine ⟨True.intro, ?_⟩
  dsimp only
  rw [starts_S]
  unfold nbD nbO at q
  have ld : (x.drop st.length).length ≤ 100 := by rw [List.length_drop]; omega
  cases h : st.isPrefixOf x with
  | false =>
    rw [h] at q
    exact q
  | true =>
    rw [h] at q
    rw [if_pos rfl]
    show F_is_numeral [tx (x.drop st.length), .int 6] M _ _
    refine nume_i (by omega) ?_
    cases h2 : numeB (x.drop st.length) with
    | false =>
      rw [h2] at q
      exact q
    | true =>
      rw [h2] at q
      show fIntX [tx (x.drop st.length)] M Q
      exact ⟨numV (x.drop st.length), int_tx h2, by rw [len_S]; omega, q⟩
theorem nb_i {M : Mp} {x st : List Nat} {Q : KD} {R} (h : x.length ≤ 100) (h2 : st.length ≤ 100) (q : Q (nbD x st) M) : F_number_behind [tx x, tx st] M Q R := ⟨x, st, rfl, h, h2, q⟩
end K58
namespace K58
open PySem L2 L3
theorem srtK_ints (zs : List Int) : srtK (zs.map Sum.inl) = (zs.mergeSort fun a b => decide (a ≤ b)).map Sum.inl := by
  unfold srtK
  refine (List.map_mergeSort (r := fun a b : Int => decide (a ≤ b)) (s := PySem.W.dataLe false keyPy) (f := Sum.inl) (l := zs) fun a _ b _ => ?_).symm
  have h := congrFun (congrFun (PySem.W.dataLe_int (fun b : Int => b)) a) b
  exact h.symm
theorem keys_int : ∀ l : List Key, (∀ k ∈ l, ∃ x, k = .inl x) → ∃ ns : List Int, l = ns.map Sum.inl
  | [], _ => ⟨[], rfl⟩
  | k :: l, h => by
    obtain ⟨x, rfl⟩ := h k List.mem_cons_self
    obtain ⟨ns, rfl⟩ := keys_int l fun y hy => h y (List.mem_cons_of_mem _ hy)
    exact ⟨x :: ns, rfl⟩
theorem keys_str : ∀ l : List Key, (∀ k ∈ l, ∃ x, k = .inr x) → ∃ ns : List Str, l = ns.map Sum.inr
  | [], _ => ⟨[], rfl⟩
  | k :: l, h => by
    obtain ⟨x, rfl⟩ := h k List.mem_cons_self
    obtain ⟨ns, rfl⟩ := keys_str l fun y hy => h y (List.mem_cons_of_mem _ hy)
    exact ⟨x :: ns, rfl⟩
theorem i_tr (a b c : Int) (h : decide (a ≤ b) = true) (h2 : decide (b ≤ c) = true) : decide (a ≤ c) = true := by
  rw [decide_eq_true_eq] at *
  omega
theorem i_tot (a b : Int) : (decide (a ≤ b) || decide (b ≤ a)) = true := by
  rw [Bool.or_eq_true, decide_eq_true_eq, decide_eq_true_eq]
  omega
theorem t_tr (a b c : List Nat) (h : decide (a ≤ b) = true) (h2 : decide (b ≤ c) = true) : decide (a ≤ c) = true := by
  rw [decide_eq_true_eq] at *
  exact List.le_trans h h2
theorem t_tot (a b : List Nat) : (decide (a ≤ b) || decide (b ≤ a)) = true := by
  rw [Bool.or_eq_true, decide_eq_true_eq, decide_eq_true_eq]
  exact List.le_total a b
theorem t_lt {a b : List Nat} (h : a ≤ b) (n : a ≠ b) : a < b := by
  refine Classical.byContradiction fun c => n ?_
  exact List.le_antisymm h (List.not_lt.mp c)
theorem one_of {α : Type} {lt : α → α → Prop} (ir : ∀ a, ¬ lt a a) (as : ∀ a b, lt a b → ¬ lt b a) : ∀ {xs ys : List α}, xs.Pairwise lt → ys.Pairwise lt → (∀ k, k ∈ xs ↔ k ∈ ys) → xs = ys
  | [], [], _, _, _ => rfl
  | [], y :: ys, _, _, h => absurd ((h y).mpr List.mem_cons_self) (by simp)
  | x :: xs, [], _, _, h => absurd ((h x).mp List.mem_cons_self) (by simp)
  | x :: xs, y :: ys, p, q, h => by
    rw [List.pairwise_cons] at p q
    have e : x = y := by
      rcases List.mem_cons.mp ((h x).mp List.mem_cons_self) with e | e
      · exact e
      rcases List.mem_cons.mp ((h y).mpr List.mem_cons_self) with e2 | e2
      · exact e2.symm
      exact absurd (p.1 _ e2) (as _ _ (q.1 _ e))
    subst e
    rw [one_of ir as p.2 q.2 fun k => ?_]
    constructor
    · intro hk
      rcases List.mem_cons.mp ((h k).mp (List.mem_cons_of_mem _ hk)) with e | e
      · subst e
        exact absurd (p.1 _ hk) (ir _)
      · exact e
    · intro hk
      rcases List.mem_cons.mp ((h k).mpr (List.mem_cons_of_mem _ hk)) with e | e
      · subst e
        exact absurd (q.1 _ hk) (ir _)
      · exact e
theorem inNs_one {a b l m : List Int} (h : inNs a l) (h2 : inNs b m) (e : ∀ k, k ∈ l ↔ k ∈ m) : a = b :=
  one_of (fun a => Int.lt_irrefl a) (fun a b h1 h2 => by omega) h.1 h2.1 fun k => ((h.2 k).trans (e k)).trans (h2.2 k).symm
theorem inTs_one {a b l m : List (List Nat)} (h : inTs a l) (h2 : inTs b m) (e : ∀ k, k ∈ l ↔ k ∈ m) : a = b :=
  one_of (fun a => List.lt_irrefl a) (fun a b h1 h2 => List.lt_asymm h1 h2) h.1 h2.1 fun k => ((h.2 k).trans (e k)).trans (h2.2 k).symm
theorem srt_ints (ns : List Int) (nd : ns.Nodup) : inNs (ns.mergeSort fun a b => decide (a ≤ b)) ns := by
  have pm : (ns.mergeSort fun a b => decide (a ≤ b)).Perm ns := List.mergeSort_perm _ _
  refine ⟨((List.pairwise_mergeSort i_tr i_tot ns).and (pm.nodup_iff.mpr nd)).imp fun {a b} h => ?_, fun k => pm.mem_iff⟩
  have h1 := of_decide_eq_true h.1
  have h2 := h.2
  omega
theorem srt_txts (xs : List (List Nat)) (nd : xs.Nodup) : inTs (xs.mergeSort fun a b => decide (a ≤ b)) xs := by
  have pm : (xs.mergeSort fun a b => decide (a ≤ b)).Perm xs := List.mergeSort_perm _ _
  refine ⟨((List.pairwise_mergeSort t_tr t_tot xs).and (pm.nodup_iff.mpr nd)).imp fun {a b} h => ?_, fun k => pm.mem_iff⟩
  exact t_lt (of_decide_eq_true h.1) h.2
theorem srtK_txts (zs : List (List Nat)) : srtK (zs.map fun z => Sum.inr (S z)) = (zs.mergeSort fun a b => decide (a ≤ b)).map fun z => Sum.inr (S z) := by
  unfold srtK
  refine (List.map_mergeSort (r := fun a b : List Nat => decide (a ≤ b)) (s := PySem.W.dataLe false keyPy) (f := fun z => Sum.inr (S z)) (l := zs) fun a _ b _ => ?_).symm
  have h := congrFun (congrFun (PySem.W.dataLe_str (fun b : List Nat => S b)) a) b
  simp only [tl_S] at h
  exact h.symm
theorem srtD_ints (zs : List Int) : srtD (zs.map .int) = (zs.mergeSort fun a b => decide (a ≤ b)).map .int := by
  unfold srtD
  refine (List.map_mergeSort (r := fun a b : Int => decide (a ≤ b)) (s := PySem.W.dataLe false D.py) (f := D.int) (l := zs) fun a _ b _ => ?_).symm
  have h := congrFun (congrFun (PySem.W.dataLe_int (fun b : Int => b)) a) b
  exact h.symm
theorem srtD_txts (zs : List (List Nat)) : srtD (zs.map tx) = (zs.mergeSort fun a b => decide (a ≤ b)).map tx := by
  unfold srtD
  refine (List.map_mergeSort (r := fun a b : List Nat => decide (a ≤ b)) (s := PySem.W.dataLe false D.py) (f := tx) (l := zs) fun a _ b _ => ?_).symm
  have h := congrFun (congrFun (PySem.W.dataLe_str (fun b : List Nat => S b)) a) b
  simp only [tl_S] at h
  exact h.symm
theorem keys_tx (l : List Key) (h : ∀ k ∈ l, ∃ x, k = .inr x) : ∃ ns : List (List Nat), l = ns.map fun z => Sum.inr (S z) := by
  obtain ⟨ns, rfl⟩ := keys_str l h
  refine ⟨ns.map fun x => x.cps.toList, ?_⟩
  rw [List.map_map]
  refine List.map_congr_left fun x _ => ?_
  show _ = Sum.inr (S x.cps.toList)
  rw [S_of]
theorem wp_lot_of : ∀ ds M Q R, F_lot_of ds M Q R → W_lot_of { nx := fun _ M' => Q .non M', rt := Q, xr := lx R } (startE 1 ds) M := by
  rintro ds M Q R ⟨d, rfl, h⟩
  unfold W_lot_of
  simp (disch := first | assumption | decide) only [wSeq, wNext, wAsg, wgName, wIfS, wB, wOp, wVar, wC, wCall, wCallK, wCons, wNil, wRet, wRetN, wDrop, wTup, wLst, wIf, wAnd, wOr, wNot, wAndV, wOrV, wNotV, wNeg, wChain, fI, fI0, addD, fLt, fLe, fGt, fGe, fIsB, wCB, fAbs, f2I, fInt, fIsq, wPar, wPar3, permD, startE, List.map_cons, List.map_nil, List.cons_append, List.nil_append, List.append_nil, List.length_cons, List.length_nil, List.replicate, List.getElem?_cons_zero, List.getElem?_cons_succ, List.set_cons_zero, List.set_cons_succ, List.getD_cons_zero, List.getD_cons_succ, Nat.reduceAdd, Nat.reduceSub, Nat.zero_add, true_and, and_true, Bool.not_true, Bool.not_false, if_true, if_false, Bool.false_eq_true, reduceIte, decide_eq_true_eq, Bool.not_eq_true', decide_eq_false_iff_not, eqV_int, eqV_str, eqV_bl, decide_true, reduceCtorEq, not_true_eq_false, not_false_eq_true, Bool.not_eq_true, List.not_mem_nil, false_implies, implies_true, Int.reduceNeg, Int.reduceToNat, Int.reducePow, Int.reduceMul, Int.reduceAdd, draw_i, ix_t0, ix_t1, ix_t2, ix_t3, ix_m3, ix_m4, sn_ball_box, sn_cell_box, sn_cell_ball, sn_ball_cell, sn_box_ball, sn_box_cell, decide_false, wSortSet, fTuple]
  rcases h with ⟨ns, hs, hl, q⟩ | ⟨xs, hs, hl, q⟩
  · refine ⟨ns.map Sum.inl, ?_, by rw [List.length_map]; omega, .inl fun k hk => ?_, fun us nd hm hu => ?_⟩
    · rw [hs, List.map_map]
      rfl
    · obtain ⟨x, _, rfl⟩ := List.mem_map.mp hk
      exact ⟨x, rfl⟩
    · obtain ⟨vs, rfl⟩ := keys_int us fun k hk => by
        obtain ⟨x, _, rfl⟩ := List.mem_map.mp ((hm k).1 hk)
        exact ⟨x, rfl⟩
      rw [srtK_ints, List.map_map]
      have ndv : vs.Nodup := (List.pairwise_map.mp nd).imp fun hne e => hne (congrArg Sum.inl e)
      have z := srt_ints vs ndv
      refine ⟨_, rfl, q _ ⟨z.1, fun k => (z.2 k).trans ?_⟩⟩
      have := hm (.inl k)
      simpa using this
  · refine ⟨xs.map fun z => Sum.inr (S z), ?_, by rw [List.length_map]; omega, .inr fun k hk => ?_, fun us nd hm hu => ?_⟩
    · rw [hs, List.map_map]
      rfl
    · obtain ⟨x, _, rfl⟩ := List.mem_map.mp hk
      exact ⟨_, rfl⟩
    · obtain ⟨vs, rfl⟩ := keys_tx us fun k hk => by
        obtain ⟨x, _, rfl⟩ := List.mem_map.mp ((hm k).1 hk)
        exact ⟨_, rfl⟩
      rw [srtK_txts, List.map_map]
      have ndv : vs.Nodup := (List.pairwise_map.mp nd).imp fun hne e => hne (by rw [e])
      have z := srt_txts vs ndv
      refine ⟨_, rfl, q _ ⟨z.1, fun k => (z.2 k).trans ?_⟩⟩
      have h := hm (.inr (S k))
      constructor
      · intro hk
        obtain ⟨y, hy, e⟩ := List.mem_map.mp (h.mp (List.mem_map.mpr ⟨k, hk, rfl⟩))
        rw [← S_inj (Sum.inr.inj e)]
        exact hy
      · intro hk
        obtain ⟨y, hy, e⟩ := List.mem_map.mp (h.mpr (List.mem_map.mpr ⟨k, hk, rfl⟩))
        rw [← S_inj (Sum.inr.inj e)]
        exact hy
theorem lotN_i {M : Mp} {d : D} {ns : List Int} {Q : KD} {R} (hs : seqD M d = some (ns.map .int)) (hl : ns.length ≤ 100) (q : ∀ zs, inNs zs ns → Q (nsD zs) M) : F_lot_of [d] M Q R := ⟨d, rfl, .inl ⟨ns, hs, hl, q⟩⟩
theorem lotT_i {M : Mp} {d : D} {xs : List (List Nat)} {Q : KD} {R} (hs : seqD M d = some (xs.map tx)) (hl : xs.length ≤ 100) (q : ∀ zs, inTs zs xs → Q (tsD zs) M) : F_lot_of [d] M Q R := ⟨d, rfl, .inr ⟨xs, hs, hl, q⟩⟩
end K58
namespace K58
open PySem L2 L3
theorem ite_both {c : Prop} [Decidable c] {a b : Prop} (h1 : c → a) (h2 : ¬ c → b) : if c then a else b := by
  split
  · exact h1 ‹_›
  · exact h2 ‹_›
theorem nb_is {x st : List Nat} {n : Int} (h : nbO x st = some n) : nbD x st = .int n := by
  unfold nbD
  rw [h]
theorem nb_no {x st : List Nat} (h : nbO x st = none) : nbD x st = .non := by
  unfold nbD
  rw [h]
theorem nb_list (st : List Nat) : ∀ xs : List (List Nat), (xs.filter fun x => (nbO x st).isSome).map (fun x => nbD x st) = (xs.filterMap fun x => nbO x st).map .int
  | [] => rfl
  | x :: xs => by
    have ih := nb_list st xs
    cases h : nbO x st with
    | none =>
      rw [List.filter_cons_of_neg (by rw [h]; decide), List.filterMap_cons_none (f := fun x => nbO x st) h]
      exact ih
    | some n =>
      rw [List.filter_cons_of_pos (by rw [h]; rfl), List.filterMap_cons_some (f := fun x => nbO x st) h, List.map_cons, List.map_cons, ih, nb_is h]
theorem notnon_i {M : Mp} {x st : List Nat} {Q : KD} (q : Q (.bl (nbO x st).isSome) M) : fIsN true (nbD x st) .non M Q := by
  cases h : nbO x st with
  | none =>
    rw [nb_no h]
    rw [h] at q
    exact q
  | some n =>
    rw [nb_is h]
    rw [h] at q
    exact q
theorem wp_numbers_behind : ∀ ds M Q R, F_numbers_behind ds M Q R → W_numbers_behind { nx := fun _ M' => Q .non M', rt := Q, xr := lx R } (startE 5 ds) M := by
  rintro ds M Q R ⟨xs, st, rfl, hl, hx, hs, q⟩
  unfold W_numbers_behind
  refine seq_gen fun K hK => ?_
  simp (disch := first | assumption | decide) only [wSeq, wNext, wAsg, wgName, wIfS, wB, wOp, wVar, wC, wCall, wCallK, wCons, wNil, wRet, wRetN, wDrop, wTup, wLst, wIf, wAnd, wOr, wNot, wAndV, wOrV, wNotV, wNeg, wChain, fI, fI0, addD, fLt, fLe, fGt, fGe, fIsB, wCB, fAbs, f2I, fInt, fIsq, wPar, wPar3, permD, startE, List.map_cons, List.map_nil, List.cons_append, List.nil_append, List.append_nil, List.length_cons, List.length_nil, List.replicate, List.getElem?_cons_zero, List.getElem?_cons_succ, List.set_cons_zero, List.set_cons_succ, List.getD_cons_zero, List.getD_cons_succ, Nat.reduceAdd, Nat.reduceSub, Nat.zero_add, true_and, and_true, Bool.not_true, Bool.not_false, if_true, if_false, Bool.false_eq_true, reduceIte, decide_eq_true_eq, Bool.not_eq_true', decide_eq_false_iff_not, eqV_int, eqV_str, eqV_bl, decide_true, reduceCtorEq, not_true_eq_false, not_false_eq_true, Bool.not_eq_true, List.not_mem_nil, false_implies, implies_true, Int.reduceNeg, Int.reduceToNat, Int.reducePow, Int.reduceMul, Int.reduceAdd, draw_i, ix_t0, ix_t1, ix_t2, ix_t3, ix_m3, ix_m4, sn_ball_box, sn_cell_box, sn_cell_ball, sn_ball_cell, sn_box_ball, sn_box_cell, decide_false, wLc, wiSeq, wipeE, tsD]
  refine lc_map tx (fun x => nbD x st) (show AnyM M from True.intro) xs [] (by simp only [List.length_nil]; omega) (fun x hm K2 hK2 => ?_) ?_
  · simp (disch := first | assumption | decide) only [wSeq, wNext, wAsg, wgName, wIfS, wB, wOp, wVar, wC, wCall, wCallK, wCons, wNil, wRet, wRetN, wDrop, wTup, wLst, wIf, wAnd, wOr, wNot, wAndV, wOrV, wNotV, wNeg, wChain, fI, fI0, addD, fLt, fLe, fGt, fGe, fIsB, wCB, fAbs, f2I, fInt, fIsq, wPar, wPar3, permD, startE, List.map_cons, List.map_nil, List.cons_append, List.nil_append, List.append_nil, List.length_cons, List.length_nil, List.replicate, List.getElem?_cons_zero, List.getElem?_cons_succ, List.set_cons_zero, List.set_cons_succ, List.getD_cons_zero, List.getD_cons_succ, Nat.reduceAdd, Nat.reduceSub, Nat.zero_add, true_and, and_true, Bool.not_true, Bool.not_false, if_true, if_false, Bool.false_eq_true, reduceIte, decide_eq_true_eq, Bool.not_eq_true', decide_eq_false_iff_not, eqV_int, eqV_str, eqV_bl, decide_true, reduceCtorEq, not_true_eq_false, not_false_eq_true, Bool.not_eq_true, List.not_mem_nil, false_implies, implies_true, Int.reduceNeg, Int.reduceToNat, Int.reducePow, Int.reduceMul, Int.reduceAdd, draw_i, ix_t0, ix_t1, ix_t2, ix_t3, ix_m3, ix_m4, sn_ball_box, sn_cell_box, sn_cell_ball, sn_ball_cell, sn_box_ball, sn_box_cell, decide_false]
    exact nb_i (by have := hx x hm; omega) hs hK2
  subst hK
  simp (disch := first | assumption | decide) only [wSeq, wNext, wAsg, wgName, wIfS, wB, wOp, wVar, wC, wCall, wCallK, wCons, wNil, wRet, wRetN, wDrop, wTup, wLst, wIf, wAnd, wOr, wNot, wAndV, wOrV, wNotV, wNeg, wChain, fI, fI0, addD, fLt, fLe, fGt, fGe, fIsB, wCB, fAbs, f2I, fInt, fIsq, wPar, wPar3, permD, startE, List.map_cons, List.map_nil, List.cons_append, List.nil_append, List.append_nil, List.length_cons, List.length_nil, List.replicate, List.getElem?_cons_zero, List.getElem?_cons_succ, List.set_cons_zero, List.set_cons_succ, List.getD_cons_zero, List.getD_cons_succ, Nat.reduceAdd, Nat.reduceSub, Nat.zero_add, true_and, and_true, Bool.not_true, Bool.not_false, if_true, if_false, Bool.false_eq_true, reduceIte, decide_eq_true_eq, Bool.not_eq_true', decide_eq_false_iff_not, eqV_int, eqV_str, eqV_bl, decide_true, reduceCtorEq, not_true_eq_false, not_false_eq_true, Bool.not_eq_true, List.not_mem_nil, false_implies, implies_true, Int.reduceNeg, Int.reduceToNat, Int.reducePow, Int.reduceMul, Int.reduceAdd, draw_i, ix_t0, ix_t1, ix_t2, ix_t3, ix_m3, ix_m4, sn_ball_box, sn_cell_box, sn_cell_ball, sn_ball_cell, sn_box_ball, sn_box_cell, decide_false, wLc, wiSeq, wipeE]
  refine lc_filt (fun x => nbD x st) (fun x => nbD x st) (fun x => (nbO x st).isSome) (show AnyM M from True.intro) xs [] (by simp only [List.length_nil]; omega) (fun x hm A B hA hB => ?_) ?_
  · simp (disch := first | assumption | decide) only [wSeq, wNext, wAsg, wgName, wIfS, wB, wOp, wVar, wC, wCall, wCallK, wCons, wNil, wRet, wRetN, wDrop, wTup, wLst, wIf, wAnd, wOr, wNot, wAndV, wOrV, wNotV, wNeg, wChain, fI, fI0, addD, fLt, fLe, fGt, fGe, fIsB, wCB, fAbs, f2I, fInt, fIsq, wPar, wPar3, permD, startE, List.map_cons, List.map_nil, List.cons_append, List.nil_append, List.append_nil, List.length_cons, List.length_nil, List.replicate, List.getElem?_cons_zero, List.getElem?_cons_succ, List.set_cons_zero, List.set_cons_succ, List.getD_cons_zero, List.getD_cons_succ, Nat.reduceAdd, Nat.reduceSub, Nat.zero_add, true_and, and_true, Bool.not_true, Bool.not_false, if_true, if_false, Bool.false_eq_true, reduceIte, decide_eq_true_eq, Bool.not_eq_true', decide_eq_false_iff_not, eqV_int, eqV_str, eqV_bl, decide_true, reduceCtorEq, not_true_eq_false, not_false_eq_true, Bool.not_eq_true, List.not_mem_nil, false_implies, implies_true, Int.reduceNeg, Int.reduceToNat, Int.reducePow, Int.reduceMul, Int.reduceAdd, draw_i, ix_t0, ix_t1, ix_t2, ix_t3, ix_m3, ix_m4, sn_ball_box, sn_cell_box, sn_cell_ball, sn_ball_cell, sn_box_ball, sn_box_cell, decide_false]
    refine notnon_i ?_
    cases h : (nbO x st).isSome with
    | true => exact hA h
    | false => exact hB h
  rw [List.nil_append, nb_list]
  refine lotN_i rfl ?_ q
  have := List.length_filterMap_le (fun x => nbO x st) xs
  omega
theorem nbs_i {M : Mp} {xs : List (List Nat)} {st : List Nat} {Q : KD} {R} (hl : xs.length ≤ 20) (hx : ∀ x ∈ xs, x.length ≤ 100) (hs : st.length ≤ 100) (q : ∀ zs, inNs zs (xs.filterMap fun x => nbO x st) → Q (nsD zs) M) : F_numbers_behind [tsD xs, tx st] M Q R := ⟨xs, st, rfl, hl, hx, hs, q⟩
theorem wp_shard_files : ∀ ds M Q R, F_shard_files ds M Q R → W_shard_files { nx := fun _ M' => Q .non M', rt := Q, xr := lx R } (startE 8 ds) M := by
  rintro ds M Q R ⟨xs, nm, rfl, hl, hx, hn, q⟩
  unfold W_shard_files
  have sm : ∀ y : List Nat, y.length ≤ 200 → (S y).length ≤ sizeLine := fun y hy => by
    rw [len_S]
    exact Nat.le_trans hy (by decide)
  have ls : (stS nm).length = nm.length + 2 := by unfold stS; rw [List.length_append]; rfl
  have ll : (stL nm).length = nm.length + 2 := by unfold stL; rw [List.length_append]; rfl
  have es : S nm ++ Str.ofString ".s" = S (stS nm) := cat_S nm [46, 115]
  have el : S nm ++ Str.ofString ".l" = S (stL nm) := cat_S nm [46, 108]
  have two : ∀ k : Nat, k ≤ 90 → (S nm).length + k ≤ sizeLine := fun k hk => by
    rw [len_S]
    exact Nat.le_trans (by omega : nm.length + k ≤ 200) (by decide)
  refine seq_gen fun K hK => ?_
  simp (disch := first | assumption | decide) only [wSeq, wNext, wAsg, wgName, wIfS, wB, wOp, wVar, wC, wCall, wCallK, wCons, wNil, wRet, wRetN, wDrop, wTup, wLst, wIf, wAnd, wOr, wNot, wAndV, wOrV, wNotV, wNeg, wChain, fI, fI0, addD, fLt, fLe, fGt, fGe, fIsB, wCB, fAbs, f2I, fInt, fIsq, wPar, wPar3, permD, startE, List.map_cons, List.map_nil, List.cons_append, List.nil_append, List.append_nil, List.length_cons, List.length_nil, List.replicate, List.getElem?_cons_zero, List.getElem?_cons_succ, List.set_cons_zero, List.set_cons_succ, List.getD_cons_zero, List.getD_cons_succ, Nat.reduceAdd, Nat.reduceSub, Nat.zero_add, true_and, and_true, Bool.not_true, Bool.not_false, if_true, if_false, Bool.false_eq_true, reduceIte, decide_eq_true_eq, Bool.not_eq_true', decide_eq_false_iff_not, eqV_int, eqV_str, eqV_bl, decide_true, reduceCtorEq, not_true_eq_false, not_false_eq_true, Bool.not_eq_true, List.not_mem_nil, false_implies, implies_true, Int.reduceNeg, Int.reduceToNat, Int.reducePow, Int.reduceMul, Int.reduceAdd, draw_i, ix_t0, ix_t1, ix_t2, ix_t3, ix_m3, ix_m4, sn_ball_box, sn_cell_box, sn_cell_ball, sn_ball_cell, sn_box_ball, sn_box_cell, decide_false, tx]
  refine ⟨two 2 (by decide), two 2 (by decide), ?_⟩
  rw [es, el]
  refine ⟨by decide, ?_⟩
  subst hK
  refine seq_gen fun K hK => ?_
  simp (disch := first | assumption | decide) only [wSeq, wNext, wAsg, wgName, wIfS, wB, wOp, wVar, wC, wCall, wCallK, wCons, wNil, wRet, wRetN, wDrop, wTup, wLst, wIf, wAnd, wOr, wNot, wAndV, wOrV, wNotV, wNeg, wChain, fI, fI0, addD, fLt, fLe, fGt, fGe, fIsB, wCB, fAbs, f2I, fInt, fIsq, wPar, wPar3, permD, startE, List.map_cons, List.map_nil, List.cons_append, List.nil_append, List.append_nil, List.length_cons, List.length_nil, List.replicate, List.getElem?_cons_zero, List.getElem?_cons_succ, List.set_cons_zero, List.set_cons_succ, List.getD_cons_zero, List.getD_cons_succ, Nat.reduceAdd, Nat.reduceSub, Nat.zero_add, true_and, and_true, Bool.not_true, Bool.not_false, if_true, if_false, Bool.false_eq_true, reduceIte, decide_eq_true_eq, Bool.not_eq_true', decide_eq_false_iff_not, eqV_int, eqV_str, eqV_bl, decide_true, reduceCtorEq, not_true_eq_false, not_false_eq_true, Bool.not_eq_true, List.not_mem_nil, false_implies, implies_true, Int.reduceNeg, Int.reduceToNat, Int.reducePow, Int.reduceMul, Int.reduceAdd, draw_i, ix_t0, ix_t1, ix_t2, ix_t3, ix_m3, ix_m4, sn_ball_box, sn_cell_box, sn_cell_ball, sn_ball_cell, sn_box_ball, sn_box_cell, decide_false, wLc, wiSeq, wipeE, tsD]
  refine lc_filt tx (fun x => tx (x.take (x.length - 4))) (fun x => decide (x.drop (x.length - 4) = NEWL)) (show AnyM M from True.intro) xs [] (by simp only [List.length_nil]; omega) (fun x hm A B hA hB => ?_) ?_
  · simp (disch := first | assumption | decide) only [wSeq, wNext, wAsg, wgName, wIfS, wB, wOp, wVar, wC, wCall, wCallK, wCons, wNil, wRet, wRetN, wDrop, wTup, wLst, wIf, wAnd, wOr, wNot, wAndV, wOrV, wNotV, wNeg, wChain, fI, fI0, addD, fLt, fLe, fGt, fGe, fIsB, wCB, fAbs, f2I, fInt, fIsq, wPar, wPar3, permD, startE, List.map_cons, List.map_nil, List.cons_append, List.nil_append, List.append_nil, List.length_cons, List.length_nil, List.replicate, List.getElem?_cons_zero, List.getElem?_cons_succ, List.set_cons_zero, List.set_cons_succ, List.getD_cons_zero, List.getD_cons_succ, Nat.reduceAdd, Nat.reduceSub, Nat.zero_add, true_and, and_true, Bool.not_true, Bool.not_false, if_true, if_false, Bool.false_eq_true, reduceIte, decide_eq_true_eq, Bool.not_eq_true', decide_eq_false_iff_not, eqV_int, eqV_str, eqV_bl, decide_true, reduceCtorEq, not_true_eq_false, not_false_eq_true, Bool.not_eq_true, List.not_mem_nil, false_implies, implies_true, Int.reduceNeg, Int.reduceToNat, Int.reducePow, Int.reduceMul, Int.reduceAdd, draw_i, ix_t0, ix_t1, ix_t2, ix_t3, ix_m3, ix_m4, sn_ball_box, sn_cell_box, sn_cell_ball, sn_ball_cell, sn_box_ball, sn_box_cell, decide_false]
    refine ⟨True.intro, ?_⟩
    dsimp only
    have e1 : Txt.endswith (S x) (Str.ofString ".new") = decide (x.drop (x.length - 4) = NEWL) := ends_S x NEWL (by decide)
    rw [e1]
    cases h : decide (x.drop (x.length - 4) = NEWL) with
    | false => exact hB h
    | true =>
      rw [if_pos rfl]
      simp (disch := first | assumption | decide) only [wSeq, wNext, wAsg, wgName, wIfS, wB, wOp, wVar, wC, wCall, wCallK, wCons, wNil, wRet, wRetN, wDrop, wTup, wLst, wIf, wAnd, wOr, wNot, wAndV, wOrV, wNotV, wNeg, wChain, fI, fI0, addD, fLt, fLe, fGt, fGe, fIsB, wCB, fAbs, f2I, fInt, fIsq, wPar, wPar3, permD, startE, List.map_cons, List.map_nil, List.cons_append, List.nil_append, List.append_nil, List.length_cons, List.length_nil, List.replicate, List.getElem?_cons_zero, List.getElem?_cons_succ, List.set_cons_zero, List.set_cons_succ, List.getD_cons_zero, List.getD_cons_succ, Nat.reduceAdd, Nat.reduceSub, Nat.zero_add, true_and, and_true, Bool.not_true, Bool.not_false, if_true, if_false, Bool.false_eq_true, reduceIte, decide_eq_true_eq, Bool.not_eq_true', decide_eq_false_iff_not, eqV_int, eqV_str, eqV_bl, decide_true, reduceCtorEq, not_true_eq_false, not_false_eq_true, Bool.not_eq_true, List.not_mem_nil, false_implies, implies_true, Int.reduceNeg, Int.reduceToNat, Int.reducePow, Int.reduceMul, Int.reduceAdd, draw_i, ix_t0, ix_t1, ix_t2, ix_t3, ix_m3, ix_m4, sn_ball_box, sn_cell_box, sn_cell_ball, sn_ball_cell, sn_box_ball, sn_box_cell, decide_false, wSl, wPart, wNoP, fLen, tx, slD]
      refine ⟨by decide, sm _ (by have := hx x hm; omega), ?_⟩
      have e2 : cutS (S x) none (some (-((Str.ofString ".new").length : Int))) = S (x.take (x.length - 4)) := cut_to x 4 (by decide)
      rw [e2]
      exact hA h
  subst hK
  refine seq_gen fun K hK => ?_
  simp (disch := first | assumption | decide) only [wSeq, wNext, wAsg, wgName, wIfS, wB, wOp, wVar, wC, wCall, wCallK, wCons, wNil, wRet, wRetN, wDrop, wTup, wLst, wIf, wAnd, wOr, wNot, wAndV, wOrV, wNotV, wNeg, wChain, fI, fI0, addD, fLt, fLe, fGt, fGe, fIsB, wCB, fAbs, f2I, fInt, fIsq, wPar, wPar3, permD, startE, List.map_cons, List.map_nil, List.cons_append, List.nil_append, List.append_nil, List.length_cons, List.length_nil, List.replicate, List.getElem?_cons_zero, List.getElem?_cons_succ, List.set_cons_zero, List.set_cons_succ, List.getD_cons_zero, List.getD_cons_succ, Nat.reduceAdd, Nat.reduceSub, Nat.zero_add, true_and, and_true, Bool.not_true, Bool.not_false, if_true, if_false, Bool.false_eq_true, reduceIte, decide_eq_true_eq, Bool.not_eq_true', decide_eq_false_iff_not, eqV_int, eqV_str, eqV_bl, decide_true, reduceCtorEq, not_true_eq_false, not_false_eq_true, Bool.not_eq_true, List.not_mem_nil, false_implies, implies_true, Int.reduceNeg, Int.reduceToNat, Int.reducePow, Int.reduceMul, Int.reduceAdd, draw_i, ix_t0, ix_t1, ix_t2, ix_t3, ix_m3, ix_m4, sn_ball_box, sn_cell_box, sn_cell_ball, sn_ball_cell, sn_box_ball, sn_box_cell, decide_false, wLc, wiSeq, wipeE]
  refine lc_filt (fun x : List Nat => tx (x.take (x.length - 4))) tx (fun x => (nbO (x.take (x.length - 4)) (stS nm)).isSome || (nbO (x.take (x.length - 4)) (stL nm)).isSome) (show AnyM M from True.intro) (xs.filter fun x => decide (x.drop (x.length - 4) = NEWL)) [] (by have := List.length_filter_le (fun x : List Nat => decide (x.drop (x.length - 4) = NEWL)) xs; simp only [List.length_nil]; omega) (fun x hm A B hA hB => ?_) ?_
  · obtain ⟨hm1, hm2⟩ := List.mem_filter.mp hm
    have hm2 := of_decide_eq_true hm2
    have lt : (x.take (x.length - 4)).length ≤ 90 := by
      have := hx x hm1
      rw [List.length_take]
      omega
    simp (disch := first | assumption | decide) only [wSeq, wNext, wAsg, wgName, wIfS, wB, wOp, wVar, wC, wCall, wCallK, wCons, wNil, wRet, wRetN, wDrop, wTup, wLst, wIf, wAnd, wOr, wNot, wAndV, wOrV, wNotV, wNeg, wChain, fI, fI0, addD, fLt, fLe, fGt, fGe, fIsB, wCB, fAbs, f2I, fInt, fIsq, wPar, wPar3, permD, startE, List.map_cons, List.map_nil, List.cons_append, List.nil_append, List.append_nil, List.length_cons, List.length_nil, List.replicate, List.getElem?_cons_zero, List.getElem?_cons_succ, List.set_cons_zero, List.set_cons_succ, List.getD_cons_zero, List.getD_cons_succ, Nat.reduceAdd, Nat.reduceSub, Nat.zero_add, true_and, and_true, Bool.not_true, Bool.not_false, if_true, if_false, Bool.false_eq_true, reduceIte, decide_eq_true_eq, Bool.not_eq_true', decide_eq_false_iff_not, eqV_int, eqV_str, eqV_bl, decide_true, reduceCtorEq, not_true_eq_false, not_false_eq_true, Bool.not_eq_true, List.not_mem_nil, false_implies, implies_true, Int.reduceNeg, Int.reduceToNat, Int.reducePow, Int.reduceMul, Int.reduceAdd, draw_i, ix_t0, ix_t1, ix_t2, ix_t3, ix_m3, ix_m4, sn_ball_box, sn_cell_box, sn_cell_ball, sn_ball_cell, sn_box_ball, sn_box_cell, decide_false]
    refine lc_map tx (fun st => .bl (nbO (x.take (x.length - 4)) st).isSome) (show AnyM M from True.intro) [stS nm, stL nm] [] (by show 0 + 2 ≤ 1000000; decide) (fun st hst K2 hK2 => ?_) ?_
    · have l3 : st.length ≤ 100 := by
        simp only [List.mem_cons, List.not_mem_nil, or_false] at hst
        rcases hst with rfl | rfl
        · omega
        · omega
      simp (disch := first | assumption | decide) only [wSeq, wNext, wAsg, wgName, wIfS, wB, wOp, wVar, wC, wCall, wCallK, wCons, wNil, wRet, wRetN, wDrop, wTup, wLst, wIf, wAnd, wOr, wNot, wAndV, wOrV, wNotV, wNeg, wChain, fI, fI0, addD, fLt, fLe, fGt, fGe, fIsB, wCB, fAbs, f2I, fInt, fIsq, wPar, wPar3, permD, startE, List.map_cons, List.map_nil, List.cons_append, List.nil_append, List.append_nil, List.length_cons, List.length_nil, List.replicate, List.getElem?_cons_zero, List.getElem?_cons_succ, List.set_cons_zero, List.set_cons_succ, List.getD_cons_zero, List.getD_cons_succ, Nat.reduceAdd, Nat.reduceSub, Nat.zero_add, true_and, and_true, Bool.not_true, Bool.not_false, if_true, if_false, Bool.false_eq_true, reduceIte, decide_eq_true_eq, Bool.not_eq_true', decide_eq_false_iff_not, eqV_int, eqV_str, eqV_bl, decide_true, reduceCtorEq, not_true_eq_false, not_false_eq_true, Bool.not_eq_true, List.not_mem_nil, false_implies, implies_true, Int.reduceNeg, Int.reduceToNat, Int.reducePow, Int.reduceMul, Int.reduceAdd, draw_i, ix_t0, ix_t1, ix_t2, ix_t3, ix_m3, ix_m4, sn_ball_box, sn_cell_box, sn_cell_ball, sn_ball_cell, sn_box_ball, sn_box_cell, decide_false]
      exact nb_i (by omega) l3 (notnon_i hK2)
    simp (disch := first | assumption | decide) only [wSeq, wNext, wAsg, wgName, wIfS, wB, wOp, wVar, wC, wCall, wCallK, wCons, wNil, wRet, wRetN, wDrop, wTup, wLst, wIf, wAnd, wOr, wNot, wAndV, wOrV, wNotV, wNeg, wChain, fI, fI0, addD, fLt, fLe, fGt, fGe, fIsB, wCB, fAbs, f2I, fInt, fIsq, wPar, wPar3, permD, startE, List.map_cons, List.map_nil, List.cons_append, List.nil_append, List.append_nil, List.length_cons, List.length_nil, List.replicate, List.getElem?_cons_zero, List.getElem?_cons_succ, List.set_cons_zero, List.set_cons_succ, List.getD_cons_zero, List.getD_cons_succ, Nat.reduceAdd, Nat.reduceSub, Nat.zero_add, true_and, and_true, Bool.not_true, Bool.not_false, if_true, if_false, Bool.false_eq_true, reduceIte, decide_eq_true_eq, Bool.not_eq_true', decide_eq_false_iff_not, eqV_int, eqV_str, eqV_bl, decide_true, reduceCtorEq, not_true_eq_false, not_false_eq_true, Bool.not_eq_true, List.not_mem_nil, false_implies, implies_true, Int.reduceNeg, Int.reduceToNat, Int.reducePow, Int.reduceMul, Int.reduceAdd, draw_i, ix_t0, ix_t1, ix_t2, ix_t3, ix_m3, ix_m4, sn_ball_box, sn_cell_box, sn_cell_ball, sn_ball_cell, sn_box_ball, sn_box_cell, decide_false, fBls]
    refine ⟨[(nbO (x.take (x.length - 4)) (stS nm)).isSome, (nbO (x.take (x.length - 4)) (stL nm)).isSome], ⟨0, .inr rfl⟩, rfl, ?_⟩
    have e3 : ([(nbO (x.take (x.length - 4)) (stS nm)).isSome, (nbO (x.take (x.length - 4)) (stL nm)).isSome].any id) = ((nbO (x.take (x.length - 4)) (stS nm)).isSome || (nbO (x.take (x.length - 4)) (stL nm)).isSome) := by simp
    refine ite_both (fun h => ?_) fun h => ?_
    · rw [e3] at h
      refine ⟨?_, ?_⟩
      · rw [len_S]
        exact Nat.le_trans (by show _ + 4 ≤ 200; omega) (by decide : 200 ≤ sizeLine)
      have e4 : S (x.take (x.length - 4)) ++ Str.ofString ".new" = S x := by
        have z := cat_S (x.take (x.length - 4)) NEWL
        have z2 := List.take_append_drop (x.length - 4) x
        rw [hm2] at z2
        rw [z2] at z
        exact z
      rw [e4]
      exact hA h
    · rw [e3] at h
      exact hB (by simpa using h)
  rw [List.nil_append, List.filter_filter]
  have e5 : (fun x : List Nat => ((nbO (x.take (x.length - 4)) (stS nm)).isSome || (nbO (x.take (x.length - 4)) (stL nm)).isSome) && decide (x.drop (x.length - 4) = NEWL)) = nwB nm := funext fun x => Bool.and_comm _ _
  rw [e5]
  subst hK
  simp (disch := first | assumption | decide) only [wSeq, wNext, wAsg, wgName, wIfS, wB, wOp, wVar, wC, wCall, wCallK, wCons, wNil, wRet, wRetN, wDrop, wTup, wLst, wIf, wAnd, wOr, wNot, wAndV, wOrV, wNotV, wNeg, wChain, fI, fI0, addD, fLt, fLe, fGt, fGe, fIsB, wCB, fAbs, f2I, fInt, fIsq, wPar, wPar3, permD, startE, List.map_cons, List.map_nil, List.cons_append, List.nil_append, List.append_nil, List.length_cons, List.length_nil, List.replicate, List.getElem?_cons_zero, List.getElem?_cons_succ, List.set_cons_zero, List.set_cons_succ, List.getD_cons_zero, List.getD_cons_succ, Nat.reduceAdd, Nat.reduceSub, Nat.zero_add, true_and, and_true, Bool.not_true, Bool.not_false, if_true, if_false, Bool.false_eq_true, reduceIte, decide_eq_true_eq, Bool.not_eq_true', decide_eq_false_iff_not, eqV_int, eqV_str, eqV_bl, decide_true, reduceCtorEq, not_true_eq_false, not_false_eq_true, Bool.not_eq_true, List.not_mem_nil, false_implies, implies_true, Int.reduceNeg, Int.reduceToNat, Int.reducePow, Int.reduceMul, Int.reduceAdd, draw_i, ix_t0, ix_t1, ix_t2, ix_t3, ix_m3, ix_m4, sn_ball_box, sn_cell_box, sn_cell_ball, sn_ball_cell, sn_box_ball, sn_box_cell, decide_false]
  refine nbs_i hl (fun x hm => by have := hx x hm; omega) (by omega) fun z1 h1 => ?_
  try simp (disch := first | assumption | decide) only [wSeq, wNext, wAsg, wgName, wIfS, wB, wOp, wVar, wC, wCall, wCallK, wCons, wNil, wRet, wRetN, wDrop, wTup, wLst, wIf, wAnd, wOr, wNot, wAndV, wOrV, wNotV, wNeg, wChain, fI, fI0, addD, fLt, fLe, fGt, fGe, fIsB, wCB, fAbs, f2I, fInt, fIsq, wPar, wPar3, permD, startE, List.map_cons, List.map_nil, List.cons_append, List.nil_append, List.append_nil, List.length_cons, List.length_nil, List.replicate, List.getElem?_cons_zero, List.getElem?_cons_succ, List.set_cons_zero, List.set_cons_succ, List.getD_cons_zero, List.getD_cons_succ, Nat.reduceAdd, Nat.reduceSub, Nat.zero_add, true_and, and_true, Bool.not_true, Bool.not_false, if_true, if_false, Bool.false_eq_true, reduceIte, decide_eq_true_eq, Bool.not_eq_true', decide_eq_false_iff_not, eqV_int, eqV_str, eqV_bl, decide_true, reduceCtorEq, not_true_eq_false, not_false_eq_true, Bool.not_eq_true, List.not_mem_nil, false_implies, implies_true, Int.reduceNeg, Int.reduceToNat, Int.reducePow, Int.reduceMul, Int.reduceAdd, draw_i, ix_t0, ix_t1, ix_t2, ix_t3, ix_m3, ix_m4, sn_ball_box, sn_cell_box, sn_cell_ball, sn_ball_cell, sn_box_ball, sn_box_cell, decide_false]
  refine nbs_i hl (fun x hm => by have := hx x hm; omega) (by omega) fun z2 h2 => ?_
  try simp (disch := first | assumption | decide) only [wSeq, wNext, wAsg, wgName, wIfS, wB, wOp, wVar, wC, wCall, wCallK, wCons, wNil, wRet, wRetN, wDrop, wTup, wLst, wIf, wAnd, wOr, wNot, wAndV, wOrV, wNotV, wNeg, wChain, fI, fI0, addD, fLt, fLe, fGt, fGe, fIsB, wCB, fAbs, f2I, fInt, fIsq, wPar, wPar3, permD, startE, List.map_cons, List.map_nil, List.cons_append, List.nil_append, List.append_nil, List.length_cons, List.length_nil, List.replicate, List.getElem?_cons_zero, List.getElem?_cons_succ, List.set_cons_zero, List.set_cons_succ, List.getD_cons_zero, List.getD_cons_succ, Nat.reduceAdd, Nat.reduceSub, Nat.zero_add, true_and, and_true, Bool.not_true, Bool.not_false, if_true, if_false, Bool.false_eq_true, reduceIte, decide_eq_true_eq, Bool.not_eq_true', decide_eq_false_iff_not, eqV_int, eqV_str, eqV_bl, decide_true, reduceCtorEq, not_true_eq_false, not_false_eq_true, Bool.not_eq_true, List.not_mem_nil, false_implies, implies_true, Int.reduceNeg, Int.reduceToNat, Int.reducePow, Int.reduceMul, Int.reduceAdd, draw_i, ix_t0, ix_t1, ix_t2, ix_t3, ix_m3, ix_m4, sn_ball_box, sn_cell_box, sn_cell_ball, sn_ball_cell, sn_box_ball, sn_box_cell, decide_false]
  refine lotT_i rfl (by have := List.length_filter_le (nwB nm) xs; omega) fun z3 h3 => ?_
  exact ⟨by decide, q z1 z2 z3 h1 h2 h3⟩
theorem files_i {M : Mp} {xs : List (List Nat)} {nm : List Nat} {Q : KD} {R} (hl : xs.length ≤ 20) (hx : ∀ x ∈ xs, x.length ≤ 90) (hn : nm.length ≤ 90) (q : ∀ z1 z2 z3, inNs z1 (xs.filterMap fun x => nbO x (stS nm)) → inNs z2 (xs.filterMap fun x => nbO x (stL nm)) → inTs z3 (xs.filter (nwB nm)) → Q (.tup [nsD z1, nsD z2, tsD z3]) M) : F_shard_files [tsD xs, tx nm] M Q R := ⟨xs, nm, rfl, hl, hx, hn, q⟩
end K58
namespace K58
open PySem L2 L3
theorem wp__law_pick : ∀ ds M Q R, pickF ds M Q R → W__law_pick { nx := fun _ M' => Q .non M', rt := Q, xr := lx R } (startE 2 ds) M := by
  rintro ds M Q R ⟨a, a0, d, es, rfl, hm, hs, h0, h1, q⟩
  unfold W__law_pick
  simp (disch := first | assumption | decide) only [wSeq, wNext, wAsg, wgName, wIfS, wB, wOp, wVar, wC, wCall, wCallK, wCons, wNil, wRet, wRetN, wDrop, wTup, wLst, wIf, wAnd, wOr, wNot, wAndV, wOrV, wNotV, wNeg, wChain, fI, fI0, addD, fLt, fLe, fGt, fGe, fIsB, wCB, fAbs, f2I, fInt, fIsq, wPar, wPar3, permD, startE, List.map_cons, List.map_nil, List.cons_append, List.nil_append, List.append_nil, List.length_cons, List.length_nil, List.replicate, List.getElem?_cons_zero, List.getElem?_cons_succ, List.set_cons_zero, List.set_cons_succ, List.getD_cons_zero, List.getD_cons_succ, Nat.reduceAdd, Nat.reduceSub, Nat.zero_add, true_and, and_true, Bool.not_true, Bool.not_false, if_true, if_false, Bool.false_eq_true, reduceIte, decide_eq_true_eq, Bool.not_eq_true', decide_eq_false_iff_not, eqV_int, eqV_str, eqV_bl, decide_true, reduceCtorEq, not_true_eq_false, not_false_eq_true, Bool.not_eq_true, List.not_mem_nil, false_implies, implies_true, Int.reduceNeg, Int.reduceToNat, Int.reducePow, Int.reduceMul, Int.reduceAdd, draw_i, ix_t0, ix_t1, ix_t2, ix_t3, ix_m3, ix_m4, sn_ball_box, sn_cell_box, sn_cell_ball, sn_ball_cell, sn_box_ball, sn_box_cell, decide_false]
  have fl : ∀ Q' : KD, Q' (.int (es.length : Int)) M → fLen [d] M Q' := fun Q' h => by
    cases d <;> first | exact ⟨es, hs, h⟩ | cases hs
  refine fl _ ?_
  have hl : (0 : Int) < (es.length : Int) := by omega
  have hg : ((es.length : Nat) : Int).natAbs.log2 < 9000 := by
    rw [Int.natAbs_natCast]
    have := Nat.log2_le_self es.length
    have h2 : es.length.log2 < 20 := (Nat.log2_lt (by omega)).mpr (by omega)
    omega
  refine ⟨a, a0, _, rfl, hm, hl, hg, fun k k0 k1 => ?_⟩
  obtain ⟨i, rfl⟩ := Int.eq_ofNat_of_zero_le k0
  have hi : i < es.length := by omega
  have e : atI es (i : Int) = some es[i] := by
    unfold atI ixN
    simp [hi]
  have fx : ∀ Q' : KD, Q' es[i] M → ixD d (.int (i : Int)) M Q' := fun Q' h => by
    cases d <;> first | exact ⟨es, _, hs, e, h⟩ | cases hs
  exact fx _ (q _ (List.getElem_mem hi))
theorem heap_cells {Q : KD} {M : Mp} {sc : Option D} {v2 v3 : Option D} : ∀ (ns acc : List Int), acc.length + ns.length ≤ 63 → (∀ c ∈ acc, 0 ≤ c) → (∀ cs : List Int, cs.length ≤ 63 → (∀ c ∈ cs, 0 ≤ c) → Q (.lst (cs.map .int)) M) →
    wLcL (wgName 1) wYes (wOp addD (wOp (fI CM fun i j => .int (i * j)) (wC (.int 2)) (wCB fAbs (wCons (wVar 1) wNil))) (wCB fInt (wCons (wOp fLt (wVar 1) (wC (.int 0))) wNil))) AnyM [sc, none, v2, v3] (ns.map .int) (acc.map .int) M Q
  | [], acc, hl, hp, q => ⟨True.intro, q acc (by simpa using hl) hp⟩
  | n :: ns, acc, hl, hp, q => by
    refine ⟨True.intro, ?_, ?_⟩
    · rw [List.length_map]
      rw [List.length_cons] at hl
      exact Nat.lt_of_lt_of_le (by omega : acc.length < 63) (by decide)
    · have e : ∀ c : Int, acc.map D.int ++ [.int c] = (acc ++ [c]).map .int := fun c => by rw [List.map_append]; rfl
      simp (disch := first | assumption | decide) only [wSeq, wNext, wAsg, wgName, wIfS, wB, wOp, wVar, wC, wCall, wCallK, wCons, wNil, wRet, wRetN, wDrop, wTup, wLst, wIf, wAnd, wOr, wNot, wAndV, wOrV, wNotV, wNeg, wChain, fI, fI0, addD, fLt, fLe, fGt, fGe, fIsB, wCB, fAbs, f2I, fInt, fIsq, wPar, wPar3, permD, startE, List.map_cons, List.map_nil, List.cons_append, List.nil_append, List.append_nil, List.length_cons, List.length_nil, List.replicate, List.getElem?_cons_zero, List.getElem?_cons_succ, List.set_cons_zero, List.set_cons_succ, List.getD_cons_zero, List.getD_cons_succ, Nat.reduceAdd, Nat.reduceSub, Nat.zero_add, true_and, and_true, Bool.not_true, Bool.not_false, if_true, if_false, Bool.false_eq_true, reduceIte, decide_eq_true_eq, Bool.not_eq_true', decide_eq_false_iff_not, eqV_int, eqV_str, eqV_bl, decide_true, reduceCtorEq, not_true_eq_false, not_false_eq_true, Bool.not_eq_true, List.not_mem_nil, false_implies, implies_true, Int.reduceNeg, Int.reduceToNat, Int.reducePow, Int.reduceMul, Int.reduceAdd, draw_i, ix_t0, ix_t1, ix_t2, ix_t3, ix_m3, ix_m4, sn_ball_box, sn_cell_box, sn_cell_ball, sn_ball_cell, sn_box_ball, sn_box_cell, decide_false, wYes]
      refine ⟨.inl (.inl ⟨by decide, by decide⟩), ?_⟩
      rw [e]
      refine heap_cells ns _ (by rw [List.length_append, List.length_singleton]; rw [List.length_cons] at hl; omega) (fun c hc => ?_) q
      rcases List.mem_append.mp hc with z | z
      · exact hp c z
      · rw [List.mem_singleton.mp z]
        split <;> omega
theorem heap_great {Q : KD} {M : Mp} {v0 v2 v3 : Option D} : ∀ (ns acc : List Int), acc.length + ns.length ≤ 63 → (∀ c ∈ acc, 0 ≤ c) → (∀ c ∈ ns, 0 ≤ c) → (∀ cs : List Int, cs.length ≤ 63 → (∀ c ∈ cs, 0 ≤ c) → Q (.lst (cs.map .int)) M) →
    wLcL (wgName 1) (wB (wOp fGe (wVar 1) (wOp (fI CPow fun i j => .int (i ^ j.toNat)) (wC (.int 10)) (wC (.int 18))))) (wVar 1) AnyM [v0, none, v2, v3] (ns.map .int) (acc.map .int) M Q
  | [], acc, hl, hp, hq, q => ⟨True.intro, q acc (by simpa using hl) hp⟩
  | n :: ns, acc, hl, hp, hq, q => by
    rw [List.length_cons] at hl
    refine ⟨True.intro, ?_, ?_⟩
    · rw [List.length_map]
      exact Nat.lt_of_lt_of_le (by omega : acc.length < 63) (by decide)
    · have e : ∀ c : Int, acc.map D.int ++ [.int c] = (acc ++ [c]).map .int := fun c => by rw [List.map_append]; rfl
      simp (disch := first | assumption | decide) only [wSeq, wNext, wAsg, wgName, wIfS, wB, wOp, wVar, wC, wCall, wCallK, wCons, wNil, wRet, wRetN, wDrop, wTup, wLst, wIf, wAnd, wOr, wNot, wAndV, wOrV, wNotV, wNeg, wChain, fI, fI0, addD, fLt, fLe, fGt, fGe, fIsB, wCB, fAbs, f2I, fInt, fIsq, wPar, wPar3, permD, startE, List.map_cons, List.map_nil, List.cons_append, List.nil_append, List.append_nil, List.length_cons, List.length_nil, List.replicate, List.getElem?_cons_zero, List.getElem?_cons_succ, List.set_cons_zero, List.set_cons_succ, List.getD_cons_zero, List.getD_cons_succ, Nat.reduceAdd, Nat.reduceSub, Nat.zero_add, true_and, and_true, Bool.not_true, Bool.not_false, if_true, if_false, Bool.false_eq_true, reduceIte, decide_eq_true_eq, Bool.not_eq_true', decide_eq_false_iff_not, eqV_int, eqV_str, eqV_bl, decide_true, reduceCtorEq, not_true_eq_false, not_false_eq_true, Bool.not_eq_true, List.not_mem_nil, false_implies, implies_true, Int.reduceNeg, Int.reduceToNat, Int.reducePow, Int.reduceMul, Int.reduceAdd, draw_i, ix_t0, ix_t1, ix_t2, ix_t3, ix_m3, ix_m4, sn_ball_box, sn_cell_box, sn_cell_ball, sn_ball_cell, sn_box_ball, sn_box_cell, decide_false]
      refine ⟨⟨by decide, by decide, by decide⟩, ?_⟩
      have hq2 : ∀ c ∈ ns, 0 ≤ c := fun c hc => hq c (List.mem_cons_of_mem _ hc)
      split
      · rw [e]
        refine heap_great ns _ (by rw [List.length_append, List.length_singleton]; omega) (fun c hc => ?_) hq2 q
        rcases List.mem_append.mp hc with z | z
        · exact hp c z
        · rw [List.mem_singleton.mp z]
          exact hq n List.mem_cons_self
      · exact heap_great ns acc (by omega) hp hq2 q
theorem wp__law_heap : ∀ ds M Q R, F__law_heap ds M Q R → W__law_heap { nx := fun _ M' => Q .non M', rt := Q, xr := lx R } (startE 4 ds) M := by
  rintro ds M Q R ⟨ns, rfl, hn, q⟩
  unfold W__law_heap
  refine seq_gen fun K hK => ?_
  simp (disch := first | assumption | decide) only [wSeq, wNext, wAsg, wgName, wIfS, wB, wOp, wVar, wC, wCall, wCallK, wCons, wNil, wRet, wRetN, wDrop, wTup, wLst, wIf, wAnd, wOr, wNot, wAndV, wOrV, wNotV, wNeg, wChain, fI, fI0, addD, fLt, fLe, fGt, fGe, fIsB, wCB, fAbs, f2I, fInt, fIsq, wPar, wPar3, permD, startE, List.map_cons, List.map_nil, List.cons_append, List.nil_append, List.append_nil, List.length_cons, List.length_nil, List.replicate, List.getElem?_cons_zero, List.getElem?_cons_succ, List.set_cons_zero, List.set_cons_succ, List.getD_cons_zero, List.getD_cons_succ, Nat.reduceAdd, Nat.reduceSub, Nat.zero_add, true_and, and_true, Bool.not_true, Bool.not_false, if_true, if_false, Bool.false_eq_true, reduceIte, decide_eq_true_eq, Bool.not_eq_true', decide_eq_false_iff_not, eqV_int, eqV_str, eqV_bl, decide_true, reduceCtorEq, not_true_eq_false, not_false_eq_true, Bool.not_eq_true, List.not_mem_nil, false_implies, implies_true, Int.reduceNeg, Int.reduceToNat, Int.reducePow, Int.reduceMul, Int.reduceAdd, draw_i, ix_t0, ix_t1, ix_t2, ix_t3, ix_m3, ix_m4, sn_ball_box, sn_cell_box, sn_cell_ball, sn_ball_cell, sn_box_ball, sn_box_cell, decide_false, wLc, wSl, wNoP, wPart, slD, wiSeq, wipeE]
  obtain ⟨ms, em, lm⟩ := cut_ints ns none (some 60)
  refine ⟨_, ⟨0, .inr rfl⟩, rfl, ?_⟩
  rw [em]
  refine heap_cells ms [] (by simp; omega) (fun c hc => by cases hc) fun cs hc hp => ?_
  subst hK
  refine seq_gen fun K hK => ?_
  refine for_gen fun B hB => ?_
  simp (disch := first | assumption | decide) only [wSeq, wNext, wAsg, wgName, wIfS, wB, wOp, wVar, wC, wCall, wCallK, wCons, wNil, wRet, wRetN, wDrop, wTup, wLst, wIf, wAnd, wOr, wNot, wAndV, wOrV, wNotV, wNeg, wChain, fI, fI0, addD, fLt, fLe, fGt, fGe, fIsB, wCB, fAbs, f2I, fInt, fIsq, wPar, wPar3, permD, startE, List.map_cons, List.map_nil, List.cons_append, List.nil_append, List.append_nil, List.length_cons, List.length_nil, List.replicate, List.getElem?_cons_zero, List.getElem?_cons_succ, List.set_cons_zero, List.set_cons_succ, List.getD_cons_zero, List.getD_cons_succ, Nat.reduceAdd, Nat.reduceSub, Nat.zero_add, true_and, and_true, Bool.not_true, Bool.not_false, if_true, if_false, Bool.false_eq_true, reduceIte, decide_eq_true_eq, Bool.not_eq_true', decide_eq_false_iff_not, eqV_int, eqV_str, eqV_bl, decide_true, reduceCtorEq, not_true_eq_false, not_false_eq_true, Bool.not_eq_true, List.not_mem_nil, false_implies, implies_true, Int.reduceNeg, Int.reduceToNat, Int.reducePow, Int.reduceMul, Int.reduceAdd, draw_i, ix_t0, ix_t1, ix_t2, ix_t3, ix_m3, ix_m4, sn_ball_box, sn_cell_box, sn_cell_ball, sn_ball_cell, sn_box_ball, sn_box_cell, decide_false, wFor, wiSeq]
  refine loop_ix (fun i ρ' M' => M' = M ∧ ∃ (v1 : Option D) (s : Int), ρ' = [some (.lst (ns.map .int)), v1, some (.lst (cs.map .int)), some (.int s)] ∧ 0 ≤ s ∧ s < 4294967296) ?_ ?_ ⟨rfl, _, _, rfl, by decide, by decide⟩
  · rintro i d ρ' M' hi ⟨rfl, v1, s, rfl, s0, s1⟩
    refine ⟨True.intro, fun K' hK' => ?_⟩
    obtain ⟨c, rfl⟩ : ∃ c : Int, d = .int c := by
      rw [List.getElem?_map] at hi
      cases e : cs[i]? with
      | none =>
        rw [e] at hi
        cases hi
      | some c =>
        rw [e] at hi
        exact ⟨c, (Option.some.inj hi).symm⟩
    subst hB
    simp (disch := first | assumption | decide) only [wSeq, wNext, wAsg, wgName, wIfS, wB, wOp, wVar, wC, wCall, wCallK, wCons, wNil, wRet, wRetN, wDrop, wTup, wLst, wIf, wAnd, wOr, wNot, wAndV, wOrV, wNotV, wNeg, wChain, fI, fI0, addD, fLt, fLe, fGt, fGe, fIsB, wCB, fAbs, f2I, fInt, fIsq, wPar, wPar3, permD, startE, List.map_cons, List.map_nil, List.cons_append, List.nil_append, List.append_nil, List.length_cons, List.length_nil, List.replicate, List.getElem?_cons_zero, List.getElem?_cons_succ, List.set_cons_zero, List.set_cons_succ, List.getD_cons_zero, List.getD_cons_succ, Nat.reduceAdd, Nat.reduceSub, Nat.zero_add, true_and, and_true, Bool.not_true, Bool.not_false, if_true, if_false, Bool.false_eq_true, reduceIte, decide_eq_true_eq, Bool.not_eq_true', decide_eq_false_iff_not, eqV_int, eqV_str, eqV_bl, decide_true, reduceCtorEq, not_true_eq_false, not_false_eq_true, Bool.not_eq_true, List.not_mem_nil, false_implies, implies_true, Int.reduceNeg, Int.reduceToNat, Int.reducePow, Int.reduceMul, Int.reduceAdd, draw_i, ix_t0, ix_t1, ix_t2, ix_t3, ix_m3, ix_m4, sn_ball_box, sn_cell_box, sn_cell_ball, sn_ball_cell, sn_box_ball, sn_box_cell, decide_false]
    refine ⟨.inl (.inr ⟨by decide, by decide⟩), by decide, by decide, ?_⟩
    exact hK' _ _ ⟨rfl, _, _, rfl, Int.emod_nonneg _ (by decide), Int.lt_trans (Int.emod_lt_of_pos _ (by decide)) (by decide)⟩
  · rintro ρ' M' ⟨rfl, v1, s, rfl, s0, s1⟩
    refine ⟨True.intro, ?_⟩
    show K _ _
    subst hK
    simp (disch := first | assumption | decide) only [wSeq, wNext, wAsg, wgName, wIfS, wB, wOp, wVar, wC, wCall, wCallK, wCons, wNil, wRet, wRetN, wDrop, wTup, wLst, wIf, wAnd, wOr, wNot, wAndV, wOrV, wNotV, wNeg, wChain, fI, fI0, addD, fLt, fLe, fGt, fGe, fIsB, wCB, fAbs, f2I, fInt, fIsq, wPar, wPar3, permD, startE, List.map_cons, List.map_nil, List.cons_append, List.nil_append, List.append_nil, List.length_cons, List.length_nil, List.replicate, List.getElem?_cons_zero, List.getElem?_cons_succ, List.set_cons_zero, List.set_cons_succ, List.getD_cons_zero, List.getD_cons_succ, Nat.reduceAdd, Nat.reduceSub, Nat.zero_add, true_and, and_true, Bool.not_true, Bool.not_false, if_true, if_false, Bool.false_eq_true, reduceIte, decide_eq_true_eq, Bool.not_eq_true', decide_eq_false_iff_not, eqV_int, eqV_str, eqV_bl, decide_true, reduceCtorEq, not_true_eq_false, not_false_eq_true, Bool.not_eq_true, List.not_mem_nil, false_implies, implies_true, Int.reduceNeg, Int.reduceToNat, Int.reducePow, Int.reduceMul, Int.reduceAdd, draw_i, ix_t0, ix_t1, ix_t2, ix_t3, ix_m3, ix_m4, sn_ball_box, sn_cell_box, sn_cell_ball, sn_ball_cell, sn_box_ball, sn_box_cell, decide_false, wDrw, wLc, wiSeq, wipeE]
    refine heap_great cs [] (by simp; omega) (fun c hc => by cases hc) hp fun cs2 hc2 hp2 => ?_
    refine ⟨cs2, s, rfl, rfl, by omega, hp2, s0, s1, fun p q' hp1 hq1 _ => q _ q' p setM_same⟩
theorem pick_i {M : Mp} {a a0 : Addr} {d : D} {es : List D} {Q : KD} {R} (hm : M a = some (.drw a0)) (hs : seqD M d = some es) (h0 : 0 < es.length) (h1 : es.length ≤ 1000000) (q : ∀ x ∈ es, Q x M) : F__law_pick [.tok a, d] M Q R := ⟨a, a0, d, es, rfl, hm, hs, h0, h1, q⟩
theorem wp__law_number : ∀ ds M Q R, F__law_number ds M Q R → W__law_number { nx := fun _ M' => Q .non M', rt := Q, xr := lx R } (startE 1 ds) M := by
  rintro ds M Q R ⟨a, a0, rfl, hm, q⟩
  unfold W__law_number
  simp (disch := first | assumption | decide) only [wSeq, wNext, wAsg, wgName, wIfS, wB, wOp, wVar, wC, wCall, wCallK, wCons, wNil, wRet, wRetN, wDrop, wTup, wLst, wIf, wAnd, wOr, wNot, wAndV, wOrV, wNotV, wNeg, wChain, fI, fI0, addD, fLt, fLe, fGt, fGe, fIsB, wCB, fAbs, f2I, fInt, fIsq, wPar, wPar3, permD, startE, List.map_cons, List.map_nil, List.cons_append, List.nil_append, List.append_nil, List.length_cons, List.length_nil, List.replicate, List.getElem?_cons_zero, List.getElem?_cons_succ, List.set_cons_zero, List.set_cons_succ, List.getD_cons_zero, List.getD_cons_succ, Nat.reduceAdd, Nat.reduceSub, Nat.zero_add, true_and, and_true, Bool.not_true, Bool.not_false, if_true, if_false, Bool.false_eq_true, reduceIte, decide_eq_true_eq, Bool.not_eq_true', decide_eq_false_iff_not, eqV_int, eqV_str, eqV_bl, decide_true, reduceCtorEq, not_true_eq_false, not_false_eq_true, Bool.not_eq_true, List.not_mem_nil, false_implies, implies_true, Int.reduceNeg, Int.reduceToNat, Int.reducePow, Int.reduceMul, Int.reduceAdd, draw_i, ix_t0, ix_t1, ix_t2, ix_t3, ix_m3, ix_m4, sn_ball_box, sn_cell_box, sn_cell_ball, sn_ball_cell, sn_box_ball, sn_box_cell, decide_false]
  refine ⟨⟨by decide, by decide, by decide⟩, ?_⟩
  refine fun k k0 k1 => ?_
  obtain ⟨n, rfl⟩ := Int.eq_ofNat_of_zero_le k0
  refine ⟨by decide, ?_⟩
  refine pick_i hm rfl (Nat.succ_pos _) (by show 8 ≤ 1000000; decide) fun x hx => ?_
  simp only [List.mem_cons, List.not_mem_nil, or_false] at hx
  have e : (10 ^ 6 : Int) = 1000000 := by decide
  rcases hx with rfl | rfl | rfl | rfl | rfl | rfl | rfl | rfl
  · exact q 0 (by decide)
  · exact q 1 (by decide)
  · exact q 7 (by decide)
  · exact q 10 (by decide)
  · exact q 99 (by decide)
  · exact q 100 (by decide)
  · exact q 999999 (by decide)
  · exact q n (by omega)
theorem number_i {M : Mp} {a a0 : Addr} {Q : KD} {R} (hm : M a = some (.drw a0)) (q : ∀ n : Nat, n ≤ 999999 → Q (.int n) M) : F__law_number [.tok a] M Q R := ⟨a, a0, rfl, hm, q⟩
theorem chk_i {M : Mp} {d : D} {Q : KD} {R : XF} (hd : tyS M d) (q : if wordB AL 8 d = true then Q .non M else R "Refused" (["word"], [.str "name"]) M) : F_check_shard_name [d] M Q R := ⟨d, rfl, hd, q⟩
theorem wp__law_is_refused : ∀ ds M Q R, F__law_is_refused ds M Q R → W__law_is_refused { nx := fun _ M' => Q .non M', rt := Q, xr := lx R } (startE 2 ds) M := by
  rintro ds M Q R ⟨d, rfl, hd, hw, q⟩
  unfold W__law_is_refused
  simp (disch := first | assumption | decide) only [wSeq, wNext, wAsg, wgName, wIfS, wB, wOp, wVar, wC, wCall, wCallK, wCons, wNil, wRet, wRetN, wDrop, wTup, wLst, wIf, wAnd, wOr, wNot, wAndV, wOrV, wNotV, wNeg, wChain, fI, fI0, addD, fLt, fLe, fGt, fGe, fIsB, wCB, fAbs, f2I, fInt, fIsq, wPar, wPar3, permD, startE, List.map_cons, List.map_nil, List.cons_append, List.nil_append, List.append_nil, List.length_cons, List.length_nil, List.replicate, List.getElem?_cons_zero, List.getElem?_cons_succ, List.set_cons_zero, List.set_cons_succ, List.getD_cons_zero, List.getD_cons_succ, Nat.reduceAdd, Nat.reduceSub, Nat.zero_add, true_and, and_true, Bool.not_true, Bool.not_false, if_true, if_false, Bool.false_eq_true, reduceIte, decide_eq_true_eq, Bool.not_eq_true', decide_eq_false_iff_not, eqV_int, eqV_str, eqV_bl, decide_true, reduceCtorEq, not_true_eq_false, not_false_eq_true, Bool.not_eq_true, List.not_mem_nil, false_implies, implies_true, Int.reduceNeg, Int.reduceToNat, Int.reducePow, Int.reduceMul, Int.reduceAdd, draw_i, ix_t0, ix_t1, ix_t2, ix_t3, ix_m3, ix_m4, sn_ball_box, sn_cell_box, sn_cell_ball, sn_ball_cell, sn_box_ball, sn_box_cell, decide_false, wTryAs, wDropX, wCallX]
  refine chk_i hd ?_
  rw [hw, if_neg (by decide)]
  intro dx
  have t1 : tab_Refused "Refused" = some true := by decide +kernel
  rw [t1]
  intro a
  simp (disch := first | assumption | decide) only [wSeq, wNext, wAsg, wgName, wIfS, wB, wOp, wVar, wC, wCall, wCallK, wCons, wNil, wRet, wRetN, wDrop, wTup, wLst, wIf, wAnd, wOr, wNot, wAndV, wOrV, wNotV, wNeg, wChain, fI, fI0, addD, fLt, fLe, fGt, fGe, fIsB, wCB, fAbs, f2I, fInt, fIsq, wPar, wPar3, permD, startE, List.map_cons, List.map_nil, List.cons_append, List.nil_append, List.append_nil, List.length_cons, List.length_nil, List.replicate, List.getElem?_cons_zero, List.getElem?_cons_succ, List.set_cons_zero, List.set_cons_succ, List.getD_cons_zero, List.getD_cons_succ, Nat.reduceAdd, Nat.reduceSub, Nat.zero_add, true_and, and_true, Bool.not_true, Bool.not_false, if_true, if_false, Bool.false_eq_true, reduceIte, decide_eq_true_eq, Bool.not_eq_true', decide_eq_false_iff_not, eqV_int, eqV_str, eqV_bl, decide_true, reduceCtorEq, not_true_eq_false, not_false_eq_true, Bool.not_eq_true, List.not_mem_nil, false_implies, implies_true, Int.reduceNeg, Int.reduceToNat, Int.reducePow, Int.reduceMul, Int.reduceAdd, draw_i, ix_t0, ix_t1, ix_t2, ix_t3, ix_m3, ix_m4, sn_ball_box, sn_cell_box, sn_cell_ball, sn_ball_cell, sn_box_ball, sn_box_cell, decide_false, wXf, eqSc, eqS]
  refine ⟨.str "name", by simp [List.lookup], ?_⟩
  simp (disch := first | assumption | decide) only [wSeq, wNext, wAsg, wgName, wIfS, wB, wOp, wVar, wC, wCall, wCallK, wCons, wNil, wRet, wRetN, wDrop, wTup, wLst, wIf, wAnd, wOr, wNot, wAndV, wOrV, wNotV, wNeg, wChain, fI, fI0, addD, fLt, fLe, fGt, fGe, fIsB, wCB, fAbs, f2I, fInt, fIsq, wPar, wPar3, permD, startE, List.map_cons, List.map_nil, List.cons_append, List.nil_append, List.append_nil, List.length_cons, List.length_nil, List.replicate, List.getElem?_cons_zero, List.getElem?_cons_succ, List.set_cons_zero, List.set_cons_succ, List.getD_cons_zero, List.getD_cons_succ, Nat.reduceAdd, Nat.reduceSub, Nat.zero_add, true_and, and_true, Bool.not_true, Bool.not_false, if_true, if_false, Bool.false_eq_true, reduceIte, decide_eq_true_eq, Bool.not_eq_true', decide_eq_false_iff_not, eqV_int, eqV_str, eqV_bl, decide_true, reduceCtorEq, not_true_eq_false, not_false_eq_true, Bool.not_eq_true, List.not_mem_nil, false_implies, implies_true, Int.reduceNeg, Int.reduceToNat, Int.reducePow, Int.reduceMul, Int.reduceAdd, draw_i, ix_t0, ix_t1, ix_t2, ix_t3, ix_m3, ix_m4, sn_ball_box, sn_cell_box, sn_cell_ball, sn_ball_cell, sn_box_ball, sn_box_cell, decide_false]
  exact q M (Up.refl M)
theorem refused_i {M : Mp} {d : D} {Q : KD} {R} (hd : tyS M d) (hw : wordB AL 8 d = false) (q : ∀ M', Up M M' → Q (.bl true) M') : F__law_is_refused [d] M Q R := ⟨d, rfl, hd, hw, q⟩
theorem join_one : ∀ cs : List Nat, TL.joinL [] (cs.map fun c => [c]) = cs
  | [] => rfl
  | [c] => rfl
  | c :: d :: cs => by
    have ih := join_one (d :: cs)
    show [c] ++ ([] ++ TL.joinL [] ((d :: cs).map fun c => [c])) = _
    rw [ih]
    rfl
theorem sum_one : ∀ cs : List Nat, ((cs.map fun c => S [c]).map (·.length)).sum = cs.length
  | [] => rfl
  | c :: cs => by
    have ih := sum_one cs
    rw [List.map_cons, List.map_cons, List.sum_cons, ih, List.length_cons]
    show 1 + _ = _
    omega
theorem chars_of {R : Nat → Prop} : ∀ {ys : List D}, (∀ y ∈ ys, ∃ c : Nat, y = .str ⟨#[c]⟩ ∧ R c) → ∃ cs : List Nat, ys = cs.map (fun c => .str (S [c])) ∧ ∀ c ∈ cs, R c
  | [], _ => ⟨[], rfl, fun b h => by cases h⟩
  | y :: ys, h => by
    obtain ⟨b, rfl, hb⟩ := h y List.mem_cons_self
    obtain ⟨ns, rfl, hn⟩ := chars_of fun z hz => h z (List.mem_cons_of_mem _ hz)
    exact ⟨b :: ns, rfl, fun c hc => (List.mem_cons.mp hc).elim (fun e => e ▸ hb) (hn c)⟩
theorem wp__law_name : ∀ ds M Q R, F__law_name ds M Q R → W__law_name { nx := fun _ M' => Q .non M', rt := Q, xr := lx R } (startE 3 ds) M := by
  rintro ds M Q R ⟨a, a0, rfl, hm, q⟩
  unfold W__law_name
  refine seq_gen fun K hK => ?_
  simp (disch := first | assumption | decide) only [wSeq, wNext, wAsg, wgName, wIfS, wB, wOp, wVar, wC, wCall, wCallK, wCons, wNil, wRet, wRetN, wDrop, wTup, wLst, wIf, wAnd, wOr, wNot, wAndV, wOrV, wNotV, wNeg, wChain, fI, fI0, addD, fLt, fLe, fGt, fGe, fIsB, wCB, fAbs, f2I, fInt, fIsq, wPar, wPar3, permD, startE, List.map_cons, List.map_nil, List.cons_append, List.nil_append, List.append_nil, List.length_cons, List.length_nil, List.replicate, List.getElem?_cons_zero, List.getElem?_cons_succ, List.set_cons_zero, List.set_cons_succ, List.getD_cons_zero, List.getD_cons_succ, Nat.reduceAdd, Nat.reduceSub, Nat.zero_add, true_and, and_true, Bool.not_true, Bool.not_false, if_true, if_false, Bool.false_eq_true, reduceIte, decide_eq_true_eq, Bool.not_eq_true', decide_eq_false_iff_not, eqV_int, eqV_str, eqV_bl, decide_true, reduceCtorEq, not_true_eq_false, not_false_eq_true, Bool.not_eq_true, List.not_mem_nil, false_implies, implies_true, Int.reduceNeg, Int.reduceToNat, Int.reducePow, Int.reduceMul, Int.reduceAdd, draw_i, ix_t0, ix_t1, ix_t2, ix_t3, ix_m3, ix_m4, sn_ball_box, sn_cell_box, sn_cell_ball, sn_ball_cell, sn_box_ball, sn_box_cell, decide_false]
  subst hK
  simp (disch := first | assumption | decide) only [wSeq, wNext, wAsg, wgName, wIfS, wB, wOp, wVar, wC, wCall, wCallK, wCons, wNil, wRet, wRetN, wDrop, wTup, wLst, wIf, wAnd, wOr, wNot, wAndV, wOrV, wNotV, wNeg, wChain, fI, fI0, addD, fLt, fLe, fGt, fGe, fIsB, wCB, fAbs, f2I, fInt, fIsq, wPar, wPar3, permD, startE, List.map_cons, List.map_nil, List.cons_append, List.nil_append, List.append_nil, List.length_cons, List.length_nil, List.replicate, List.getElem?_cons_zero, List.getElem?_cons_succ, List.set_cons_zero, List.set_cons_succ, List.getD_cons_zero, List.getD_cons_succ, Nat.reduceAdd, Nat.reduceSub, Nat.zero_add, true_and, and_true, Bool.not_true, Bool.not_false, if_true, if_false, Bool.false_eq_true, reduceIte, decide_eq_true_eq, Bool.not_eq_true', decide_eq_false_iff_not, eqV_int, eqV_str, eqV_bl, decide_true, reduceCtorEq, not_true_eq_false, not_false_eq_true, Bool.not_eq_true, List.not_mem_nil, false_implies, implies_true, Int.reduceNeg, Int.reduceToNat, Int.reducePow, Int.reduceMul, Int.reduceAdd, draw_i, ix_t0, ix_t1, ix_t2, ix_t3, ix_m3, ix_m4, sn_ball_box, sn_cell_box, sn_cell_ball, sn_ball_cell, sn_box_ball, sn_box_cell, decide_false, wJoin, wLc, wiRange1, wipeE]
  refine ⟨by decide, ?_⟩
  refine pick_i hm rfl (by decide) (by decide) fun x hx => ?_
  obtain ⟨n, rfl, n1, n8⟩ : ∃ n : Nat, x = .int (n : Int) ∧ 1 ≤ n ∧ n ≤ 8 := by
    simp only [List.mem_cons, List.not_mem_nil, or_false] at hx
    rcases hx with rfl | rfl | rfl | rfl | rfl
    · exact ⟨1, rfl, by decide, by decide⟩
    · exact ⟨3, rfl, by decide, by decide⟩
    · exact ⟨8, rfl, by decide, by decide⟩
    · exact ⟨2, rfl, by decide, by decide⟩
    · exact ⟨5, rfl, by decide, by decide⟩
  simp (disch := first | assumption | decide) only [wSeq, wNext, wAsg, wgName, wIfS, wB, wOp, wVar, wC, wCall, wCallK, wCons, wNil, wRet, wRetN, wDrop, wTup, wLst, wIf, wAnd, wOr, wNot, wAndV, wOrV, wNotV, wNeg, wChain, fI, fI0, addD, fLt, fLe, fGt, fGe, fIsB, wCB, fAbs, f2I, fInt, fIsq, wPar, wPar3, permD, startE, List.map_cons, List.map_nil, List.cons_append, List.nil_append, List.append_nil, List.length_cons, List.length_nil, List.replicate, List.getElem?_cons_zero, List.getElem?_cons_succ, List.set_cons_zero, List.set_cons_succ, List.getD_cons_zero, List.getD_cons_succ, Nat.reduceAdd, Nat.reduceSub, Nat.zero_add, true_and, and_true, Bool.not_true, Bool.not_false, if_true, if_false, Bool.false_eq_true, reduceIte, decide_eq_true_eq, Bool.not_eq_true', decide_eq_false_iff_not, eqV_int, eqV_str, eqV_bl, decide_true, reduceCtorEq, not_true_eq_false, not_false_eq_true, Bool.not_eq_true, List.not_mem_nil, false_implies, implies_true, Int.reduceNeg, Int.reduceToNat, Int.reducePow, Int.reduceMul, Int.reduceAdd, draw_i, ix_t0, ix_t1, ix_t2, ix_t3, ix_m3, ix_m4, sn_ball_box, sn_cell_box, sn_cell_ball, sn_ball_cell, sn_box_ball, sn_box_cell, decide_false]
  refine ⟨by omega, by omega, ?_⟩
  refine lc_any (fun _ y => ∃ c : Nat, y = .str ⟨#[c]⟩ ∧ c ∈ AL) True.intro _ [] (by rw [intsD_len]; simp only [List.length_nil]; omega) (fun d hd K2 hK2 => ?_) fun ys hy1 hy2 => ?_
  · simp (disch := first | assumption | decide) only [wSeq, wNext, wAsg, wgName, wIfS, wB, wOp, wVar, wC, wCall, wCallK, wCons, wNil, wRet, wRetN, wDrop, wTup, wLst, wIf, wAnd, wOr, wNot, wAndV, wOrV, wNotV, wNeg, wChain, fI, fI0, addD, fLt, fLe, fGt, fGe, fIsB, wCB, fAbs, f2I, fInt, fIsq, wPar, wPar3, permD, startE, List.map_cons, List.map_nil, List.cons_append, List.nil_append, List.append_nil, List.length_cons, List.length_nil, List.replicate, List.getElem?_cons_zero, List.getElem?_cons_succ, List.set_cons_zero, List.set_cons_succ, List.getD_cons_zero, List.getD_cons_succ, Nat.reduceAdd, Nat.reduceSub, Nat.zero_add, true_and, and_true, Bool.not_true, Bool.not_false, if_true, if_false, Bool.false_eq_true, reduceIte, decide_eq_true_eq, Bool.not_eq_true', decide_eq_false_iff_not, eqV_int, eqV_str, eqV_bl, decide_true, reduceCtorEq, not_true_eq_false, not_false_eq_true, Bool.not_eq_true, List.not_mem_nil, false_implies, implies_true, Int.reduceNeg, Int.reduceToNat, Int.reducePow, Int.reduceMul, Int.reduceAdd, draw_i, ix_t0, ix_t1, ix_t2, ix_t3, ix_m3, ix_m4, sn_ball_box, sn_cell_box, sn_cell_ball, sn_ball_cell, sn_box_ball, sn_box_cell, decide_false]
    intro k k0 k1
    obtain ⟨i, rfl⟩ := Int.eq_ofNat_of_zero_le k0
    have hi : i < AL.length := by
      have e : AL.length = 36 := by rw [AL_eq]; rfl
      omega
    have e : atI AL (i : Int) = some AL[i] := by
      unfold atI ixN
      simp [hi]
    exact ⟨by decide, AL[i], e, hK2 _ ⟨_, rfl, List.getElem_mem hi⟩⟩
  rw [List.nil_append]
  obtain ⟨cs, rfl, hcs⟩ := chars_of (R := fun c => c ∈ AL) (ys := ys) fun y hy => by
    obtain ⟨i, hi⟩ := List.mem_iff_getElem?.mp hy
    obtain ⟨_, _, h⟩ := hy2 i y hi
    exact h
  rw [List.length_map, intsD_len] at hy1
  have hl : cs.length = n := by omega
  refine ⟨cs.map fun c => S [c], ?_, ?_, ?_⟩
  · show some _ = some _
    rw [List.map_map]
    rfl
  · have z := sum_one cs
    have z2 : (Str.ofString "").length = 0 := rfl
    rw [z2, Nat.mul_zero]
    omega
  · have z := SX.join_S [] (cs.map fun c => [c])
    rw [List.map_map, join_one] at z
    have e : Txt.join (Str.ofString "") (cs.map fun c => S [c]) = S cs := z
    rw [e]
    exact q cs ⟨fun e => by rw [e] at hl; simp at hl; omega, by omega, hcs⟩
theorem name_i {M : Mp} {a a0 : Addr} {Q : KD} {R} (hm : M a = some (.drw a0)) (q : ∀ nm, nameOk nm → Q (tx nm) M) : F__law_name [.tok a] M Q R := ⟨a, a0, rfl, hm, q⟩
end K58
namespace K58
open PySem L2 L3
theorem add_i {a b : List Nat} {M : Mp} {Q : KD} (h : a.length + b.length ≤ 1000) (q : Q (tx (a ++ b)) M) : addD (tx a) (tx b) M Q := by
  refine ⟨?_, ?_⟩
  · rw [len_S, len_S]
    exact Nat.le_trans h (by decide)
  · rw [cat_S]
    exact q
theorem strI_i {n : Nat} {M : Mp} {Q : KD} (h : n ≤ 999999) (q : Q (tx (TL.numL n)) M) : fStrI [.int (n : Int)] M Q := by
  refine ⟨Nat.lt_of_le_of_lt h (Nat.lt_of_lt_of_le (by decide : 999999 < 2 ^ 20) (Nat.pow_le_pow_right (by decide) (by decide))), ?_⟩
  rw [num_tx]
  exact q
theorem eq_tx {a b : List Nat} {M : Mp} {Q : KD} (q : Q (.bl (decide (a = b))) M) : eqV false (tx a) (tx b) M Q := by
  refine eqV_str.mpr ?_
  rw [if_neg (by decide), S_eq]
  exact q
theorem addL_i {a b : List D} {M : Mp} {Q : KD} (h : a.length + b.length ≤ 1000) (q : Q (.lst (a ++ b)) M) : addD (.lst a) (.lst b) M Q :=
  ⟨a, b, ⟨0, .inr rfl⟩, ⟨0, .inr rfl⟩, rfl, rfl, Nat.le_trans h (by decide), q⟩
theorem li1 : D.str (Str.ofString ".") = tx [46] := rfl
theorem li2 : D.str (Str.ofString ".neu") = tx [46, 110, 101, 117] := rfl
theorem li3 : D.str (Str.ofString ".new.new") = tx [46, 110, 101, 119, 46, 110, 101, 119] := rfl
theorem li4 : D.str (Str.ofString "0") = tx [48] := rfl
theorem li5 : D.str (Str.ofString ".t") = tx [46, 116] := rfl
theorem li6 : D.str (Str.ofString "a") = tx [97] := rfl
theorem li7 : D.str (Str.ofString ".new") = tx [46, 110, 101, 119] := rfl
theorem li8 : D.str (Str.ofString "x") = tx [120] := rfl
theorem li9 : D.str (Str.ofString "1000000") = tx [49, 48, 48, 48, 48, 48, 48] := rfl
theorem li10 : D.str (Str.ofString "..") = tx [46, 46] := rfl
theorem li11 : D.str (Str.ofString "new") = tx [110, 101, 119] := rfl
/-- the seventeen odd names -/
def oddL (nm ot N : List Nat) (wc : Nat) : List (List Nat) :=
  [nm ++ 46 :: wc :: (N ++ [46, 110, 101, 117]), nm ++ 46 :: wc :: (N ++ [46, 110, 101, 119, 46, 110, 101, 119]), nm ++ wc :: N, nm ++ [46, wc], nm ++ 46 :: wc :: 48 :: N, nm,
   nm ++ 46 :: 116 :: N, nm ++ 46 :: wc :: (N ++ [97]), nm ++ [46, wc, 46, 110, 101, 119], ot ++ 46 :: wc :: N, nm ++ 46 :: wc :: (N ++ [46]), 120 :: (nm ++ 46 :: wc :: N),
   nm ++ [46, wc, 49, 48, 48, 48, 48, 48, 48], nm ++ 46 :: N, nm ++ 46 :: 46 :: wc :: N, [46, 110, 101, 119], nm ++ 46 :: wc :: (N ++ [110, 101, 119])]
def noFile (nm x : List Nat) : Prop := nbO x (stS nm) = none ∧ nbO x (stL nm) = none ∧ nwB nm x = false
theorem no_nb {nm r : List Nat} (h : ∀ c, c = 115 ∨ c = 108 → nbO r [46, c] = none) : nbO (nm ++ r) (stS nm) = none ∧ nbO (nm ++ r) (stL nm) = none :=
  ⟨by unfold stS; rw [nb_cat]; exact h _ (.inl rfl), by unfold stL; rw [nb_cat]; exact h _ (.inr rfl)⟩
theorem no_num {d : Nat} {t : List Nat} (h : numeB t = false) (c : Nat) : nbO (46 :: d :: t) [46, c] = none := by
  rw [nb_two, if_neg (by rw [h]; simp)]
theorem no_letter {d c : Nat} {t : List Nat} (h : c ≠ d) : nbO (46 :: d :: t) [46, c] = none := by
  rw [nb_two, if_neg fun z => h z.1]
theorem no_first {d c : Nat} {t : List Nat} (h : d ≠ 46) : nbO (d :: t) [46, c] = none := by
  unfold nbO
  have e : ([46, c] : List Nat).isPrefixOf (d :: t) = false := by
    have : (46 == d) = false := by simpa using fun e => h e.symm
    simp [List.isPrefixOf, this]
  rw [e]
  rfl
theorem no_file {nm r : List Nat} (h : ∀ c, c = 115 ∨ c = 108 → nbO r [46, c] = none) (w : nwB nm (nm ++ r) = false) : noFile nm (nm ++ r) := ⟨(no_nb h).1, (no_nb h).2, w⟩
theorem end_at {nm a : List Nat} {y : List Nat} {c : Nat} (e : a = y ++ [c]) (h : c ≠ 119) : nwB nm a = false := by
  rw [e]
  exact new_end nm y h
theorem odd_no {nm ot : List Nat} {wc n : Nat} (hn : nameOk nm) (ho : otherOk nm ot) (hw : wc = 108 ∨ wc = 115) : ∀ x ∈ oddL nm ot (TL.numL n) wc, noFile nm x := by
  obtain ⟨y, d, en, hd⟩ := numL_last n
  have d9 : d ≠ 119 := fun e => by
    have := (dg_mem d).mp hd
    omega
  have dd : d ≠ 46 := fun e => by
    have := (dg_mem d).mp hd
    omega
  have wd : ∀ {t : List Nat}, (∃ c ∈ t, c = 46 ∨ c = 97 ∨ c = 110) → numeB t = false := fun {t} ⟨c, hc, h⟩ => num_bad ⟨c, hc, fun z => by
    have := (dg_mem c).mp z
    omega⟩
  have ntl : ∀ (a : List Nat), nwB nm (a ++ TL.numL n) = false := fun a => by
    rw [en, ← List.append_assoc]
    exact new_end nm _ d9
  intro x hx
  simp only [oddL, List.mem_cons, List.not_mem_nil, or_false] at hx
  rcases hx with rfl | rfl | rfl | rfl | rfl | rfl | rfl | rfl | rfl | rfl | rfl | rfl | rfl | rfl | rfl | rfl | rfl
  · exact no_file (fun c _ => no_num (wd ⟨46, by simp, .inl rfl⟩) c) (end_at (y := nm ++ 46 :: wc :: (TL.numL n ++ [46, 110, 101])) (c := 117) (by simp) (by decide))
  · refine no_file (fun c _ => no_num (wd ⟨46, by simp, .inl rfl⟩) c) ?_
    have e : nm ++ 46 :: wc :: (TL.numL n ++ [46, 110, 101, 119, 46, 110, 101, 119]) = (nm ++ 46 :: wc :: (TL.numL n ++ NEWL)) ++ NEWL := by simp [NEWL]
    rw [e, new_cat]
    obtain ⟨h1, h2⟩ := no_nb (nm := nm) (r := 46 :: wc :: (TL.numL n ++ NEWL)) fun c _ => no_num (wd ⟨46, by simp [NEWL], .inl rfl⟩) c
    rw [h1, h2]
    rfl
  · refine no_file (fun c _ => no_first (by omega)) ?_
    have e : nm ++ wc :: TL.numL n = (nm ++ [wc]) ++ TL.numL n := by simp
    rw [e]
    exact ntl _
  · exact no_file (fun c _ => no_num num_nil c) (end_at (y := nm ++ [46]) (c := wc) (by simp) (by omega))
  · refine no_file (fun c _ => no_num (num_zero (TL.numL_ne n)) c) ?_
    have e : nm ++ 46 :: wc :: 48 :: TL.numL n = (nm ++ [46, wc, 48]) ++ TL.numL n := by simp
    rw [e]
    exact ntl _
  · refine ⟨nb_nil _ 115, nb_nil _ 108, ?_⟩
    unfold nwB
    have e : decide (x.drop (x.length - 4) = NEWL) = false := decide_eq_false fun z => by
      have m : 46 ∈ x.drop (x.length - 4) := by rw [z]; decide
      exact al_dot (hn.2.2 _ (List.mem_of_mem_drop m)) rfl
    rw [e]
    rfl
  · refine no_file (fun c h => no_letter (by omega)) ?_
    have e : nm ++ 46 :: 116 :: TL.numL n = (nm ++ [46, 116]) ++ TL.numL n := by simp
    rw [e]
    exact ntl _
  · exact no_file (fun c _ => no_num (wd ⟨97, by simp, .inr (.inl rfl)⟩) c) (end_at (y := nm ++ 46 :: wc :: TL.numL n) (c := 97) (by simp) (by decide))
  · refine no_file (fun c _ => no_num (wd ⟨46, by simp, .inl rfl⟩) c) ?_
    have e : nm ++ [46, wc, 46, 110, 101, 119] = (nm ++ [46, wc]) ++ NEWL := by simp [NEWL]
    rw [e, new_cat]
    obtain ⟨h1, h2⟩ := no_nb (nm := nm) (r := [46, wc]) fun c _ => no_num num_nil c
    rw [h1, h2]
    rfl
  · refine ⟨nb_far ho.1 ho.2 115, nb_far ho.1 ho.2 108, ?_⟩
    have e : ot ++ 46 :: wc :: TL.numL n = (ot ++ [46, wc]) ++ TL.numL n := by simp
    rw [e]
    exact ntl _
  · exact no_file (fun c _ => no_num (wd ⟨46, by simp, .inl rfl⟩) c) (end_at (y := nm ++ 46 :: wc :: TL.numL n) (c := 46) (by simp) (by decide))
  · have e : 120 :: (nm ++ 46 :: wc :: TL.numL n) = (120 :: nm) ++ (46 :: wc :: TL.numL n) := by simp
    have ha : ∀ c ∈ 120 :: nm, c ∈ AL := fun c hc => by
      rcases List.mem_cons.mp hc with rfl | hc
      · rw [AL_eq]
        decide
      · exact hn.2.2 c hc
    refine ⟨?_, ?_, ?_⟩
    · rw [e]
      exact nb_far rfl ha 115
    · rw [e]
      exact nb_far rfl ha 108
    · have e2 : 120 :: (nm ++ 46 :: wc :: TL.numL n) = (120 :: (nm ++ [46, wc])) ++ TL.numL n := by simp
      rw [e2]
      exact ntl _
  · exact no_file (fun c _ => no_num (num_long (by decide)) c) (end_at (y := nm ++ [46, wc, 49, 48, 48, 48, 48, 48]) (c := 48) (by simp) (by decide))
  · have e : nm ++ 46 :: TL.numL n = (nm ++ [46]) ++ TL.numL n := by simp
    refine no_file (fun c h => ?_) (by rw [e]; exact ntl _)
    cases q : TL.numL n with
    | nil => exact absurd q (TL.numL_ne n)
    | cons b bs =>
      have hb := (dg_mem b).mp (numL_dg n b (by rw [q]; exact List.mem_cons_self))
      exact no_letter (by omega)
  · refine no_file (fun c h => no_letter (by omega)) ?_
    have e : nm ++ 46 :: 46 :: wc :: TL.numL n = (nm ++ [46, 46, wc]) ++ TL.numL n := by simp
    rw [e]
    exact ntl _
  · obtain ⟨b, bs, eb⟩ : ∃ b bs, nm = b :: bs := by
      cases nm with
      | nil => exact absurd rfl hn.1
      | cons b bs => exact ⟨b, bs, rfl⟩
    have hb : b ≠ 46 := al_dot (hn.2.2 b (by rw [eb]; exact List.mem_cons_self))
    have pre : ∀ (c : Nat) (t : List Nat), (t = [] ∨ t.head? = some 46) → nbO t (nm ++ [46, c]) = none := fun c t ht => by
      unfold nbO
      have e : (nm ++ [46, c]).isPrefixOf t = false := by
        rw [eb]
        cases t with
        | nil => rfl
        | cons u us =>
          have hu : u = 46 := by simpa using ht
          have : (b == u) = false := by rw [hu]; simpa using hb
          simp [List.isPrefixOf, this]
      rw [e]
      rfl
    refine ⟨pre 115 _ (.inr rfl), pre 108 _ (.inr rfl), ?_⟩
    have z := new_cat nm []
    rw [List.nil_append] at z
    show nwB nm NEWL = false
    rw [z, show nbO [] (stS nm) = none from pre 115 [] (.inl rfl), show nbO [] (stL nm) = none from pre 108 [] (.inl rfl)]
    rfl
  · refine no_file (fun c _ => no_num (wd ⟨110, by simp, .inr (.inr rfl)⟩) c) ?_
    have e : nm ++ 46 :: wc :: (TL.numL n ++ [110, 101, 119]) = (nm ++ 46 :: wc :: y) ++ [d, 110, 101, 119] := by rw [en]; simp
    rw [e]
    exact new_four nm _ dd
theorem num_file {nm : List Nat} {n : Nat} (n9 : n ≤ 999999) (c c' : Nat) (h : c ≠ c') : nbO (nm ++ [46, c] ++ TL.numL n) (nm ++ [46, c]) = some (n : Int) ∧ nbO (nm ++ [46, c] ++ TL.numL n) (nm ++ [46, c']) = none ∧ nwB nm (nm ++ [46, c] ++ TL.numL n) = false := by
  obtain ⟨y, d, en, hd⟩ := numL_last n
  have e : nm ++ [46, c] ++ TL.numL n = nm ++ 46 :: c :: TL.numL n := by simp
  refine ⟨?_, ?_, ?_⟩
  · rw [e, nb_cat, nb_two, if_pos ⟨rfl, wd_num n9⟩, num_V]
  · rw [e, nb_cat]
    exact no_letter (fun z => h z.symm)
  · rw [en, ← List.append_assoc]
    exact new_end nm _ (fun e => by
      have := (dg_mem d).mp hd
      omega)
theorem new_file {nm : List Nat} {n wc : Nat} (n9 : n ≤ 999999) (hw : wc = 108 ∨ wc = 115) : nbO (nm ++ 46 :: wc :: (TL.numL n ++ NEWL)) (stS nm) = none ∧ nbO (nm ++ 46 :: wc :: (TL.numL n ++ NEWL)) (stL nm) = none ∧ nwB nm (nm ++ 46 :: wc :: (TL.numL n ++ NEWL)) = true := by
  have wd : ∀ {t : List Nat}, (∃ c ∈ t, c = 46) → numeB t = false := fun {t} ⟨c, hc, h⟩ => num_bad ⟨c, hc, fun z => by
    have := (dg_mem c).mp z
    omega⟩
  obtain ⟨h1, h2⟩ := no_nb (nm := nm) (r := 46 :: wc :: (TL.numL n ++ NEWL)) fun c _ => no_num (wd ⟨46, by simp [NEWL], rfl⟩) c
  refine ⟨h1, h2, ?_⟩
  have e : nm ++ 46 :: wc :: (TL.numL n ++ NEWL) = (nm ++ 46 :: wc :: TL.numL n) ++ NEWL := by simp
  rw [e, new_cat]
  have k : ∀ c, nbO (nm ++ 46 :: wc :: TL.numL n) (nm ++ [46, c]) = if c = wc then some (n : Int) else none := fun c => by
    rw [nb_cat, nb_two, num_V]
    simp [wd_num n9]
  unfold stS stL
  rw [k, k]
  rcases hw with rfl | rfl <;> rfl
theorem odd_len {nm ot N : List Nat} {wc : Nat} (l8 : nm.length ≤ 8) (lo : ot.length ≤ 9) (l6 : N.length ≤ 6) : ∀ x ∈ oddL nm ot N wc, x.length ≤ 40 := fun x hx => by
  simp only [oddL, List.mem_cons, List.not_mem_nil, or_false] at hx
  rcases hx with h | h | h | h | h | h | h | h | h | h | h | h | h | h | h | h | h <;> (rw [h]; (try simp only [List.length_append, List.length_cons, List.length_nil]); omega)
theorem odd_cat {nm ot N : List Nat} {wc : Nat} {A B : List D} (h1 : A = ((oddL nm ot N wc).take 12).map tx) (h2 : B = ((oddL nm ot N wc).drop 12).map tx) : A ++ B = (oddL nm ot N wc).map tx := by
  rw [h1, h2, ← List.map_append, List.take_append_drop]
theorem al_lt {c : Nat} (h : c ∈ AL) : c < 1000 := by
  rw [AL_eq] at h
  simp only [List.mem_cons, List.not_mem_nil, or_false] at h
  omega
def chOk (x : List Nat) : Prop := ∀ c ∈ x, c < 1000
theorem ch_al {x : List Nat} (h : ∀ c ∈ x, c ∈ AL) : chOk x := fun c hc => al_lt (h c hc)
theorem ch_num (n : Nat) : chOk (TL.numL n) := fun c hc => al_lt (dg_al (numL_dg n c hc))
theorem ch_cat {a b : List Nat} : chOk (a ++ b) ↔ chOk a ∧ chOk b := List.forall_mem_append
theorem ch_cons {c : Nat} {a : List Nat} : chOk (c :: a) ↔ c < 1000 ∧ chOk a := List.forall_mem_cons
theorem ch_nil : chOk [] := fun c hc => by cases hc
theorem odd_ch {nm ot N : List Nat} {wc : Nat} (h1 : chOk nm) (h2 : chOk ot) (h3 : chOk N) (hw : wc < 1000) : ∀ x ∈ oddL nm ot N wc, chOk x := fun x hx => by
  simp only [oddL, List.mem_cons, List.not_mem_nil, or_false] at hx
  rcases hx with h | h | h | h | h | h | h | h | h | h | h | h | h | h | h | h | h <;> (rw [h]; simp [ch_cat, ch_cons, ch_nil, h1, h2, h3, hw])
end K58
namespace K58
open PySem L2 L3
theorem wp__law_file : ∀ ds M Q R, F__law_file ds M Q R → W__law_file { nx := fun _ M' => Q .non M', rt := Q, xr := lx R } (startE 9 ds) M := by
  rintro ds M Q R ⟨a, a0, nm, ot, rfl, hm, hn, ho, q⟩
  unfold W__law_file
  refine seq_gen fun K hK => ?_
  simp (disch := first | assumption | decide) only [wSeq, wNext, wAsg, wgName, wIfS, wB, wOp, wVar, wC, wCall, wCallK, wCons, wNil, wRet, wRetN, wDrop, wTup, wLst, wIf, wAnd, wOr, wNot, wAndV, wOrV, wNotV, wNeg, wChain, fI, fI0, fLt, fLe, fGt, fGe, fIsB, wCB, fAbs, f2I, fInt, fIsq, wPar, wPar3, permD, startE, List.map_cons, List.map_nil, List.cons_append, List.nil_append, List.append_nil, List.length_cons, List.length_nil, List.replicate, List.getElem?_cons_zero, List.getElem?_cons_succ, List.set_cons_zero, List.set_cons_succ, List.getD_cons_zero, List.getD_cons_succ, Nat.reduceAdd, Nat.reduceSub, Nat.zero_add, true_and, and_true, Bool.not_true, Bool.not_false, if_true, if_false, Bool.false_eq_true, reduceIte, decide_eq_true_eq, Bool.not_eq_true', decide_eq_false_iff_not, eqV_int, eqV_str, eqV_bl, decide_true, reduceCtorEq, not_true_eq_false, not_false_eq_true, Bool.not_eq_true, List.not_mem_nil, false_implies, implies_true, Int.reduceNeg, Int.reduceToNat, Int.reducePow, Int.reduceMul, Int.reduceAdd, draw_i, ix_t0, ix_t1, ix_t2, ix_t3, ix_m3, ix_m4, sn_ball_box, sn_cell_box, sn_cell_ball, sn_ball_cell, sn_box_ball, sn_box_cell, decide_false, wPar]
  refine number_i hm fun n n9 => ?_
  refine ⟨by decide, ?_⟩
  refine pick_i hm rfl (by decide) (by decide) fun x hx => ?_
  obtain ⟨wc, rfl, hw⟩ : ∃ wc : Nat, x = tx [wc] ∧ (wc = 108 ∨ wc = 115) := by
    simp only [List.mem_cons, List.not_mem_nil, or_false] at hx
    rcases hx with rfl | rfl
    · exact ⟨108, rfl, .inl rfl⟩
    · exact ⟨115, rfl, .inr rfl⟩
  have l8 := hn.2.1
  have lo : ot.length ≤ 9 := by have := ho.1; omega
  have l6 := numL_le n9
  subst hK
  refine seq_gen fun K hK => ?_
  simp (disch := first | assumption | decide) only [wSeq, wNext, wAsg, wgName, wIfS, wB, wOp, wVar, wC, wCall, wCallK, wCons, wNil, wRet, wRetN, wDrop, wTup, wLst, wIf, wAnd, wOr, wNot, wAndV, wOrV, wNotV, wNeg, wChain, fI, fI0, fLt, fLe, fGt, fGe, fIsB, wCB, fAbs, f2I, fInt, fIsq, wPar, wPar3, permD, startE, List.map_cons, List.map_nil, List.cons_append, List.nil_append, List.append_nil, List.length_cons, List.length_nil, List.replicate, List.getElem?_cons_zero, List.getElem?_cons_succ, List.set_cons_zero, List.set_cons_succ, List.getD_cons_zero, List.getD_cons_succ, Nat.reduceAdd, Nat.reduceSub, Nat.zero_add, true_and, and_true, Bool.not_true, Bool.not_false, if_true, if_false, Bool.false_eq_true, reduceIte, decide_eq_true_eq, Bool.not_eq_true', decide_eq_false_iff_not, eqV_int, eqV_str, eqV_bl, decide_true, reduceCtorEq, not_true_eq_false, not_false_eq_true, Bool.not_eq_true, List.not_mem_nil, false_implies, implies_true, Int.reduceNeg, Int.reduceToNat, Int.reducePow, Int.reduceMul, Int.reduceAdd, draw_i, ix_t0, ix_t1, ix_t2, ix_t3, ix_m3, ix_m4, sn_ball_box, sn_cell_box, sn_cell_ball, sn_ball_cell, sn_box_ball, sn_box_cell, decide_false, li1]
  refine add_i (by simp; omega) (add_i (by simp; omega) (strI_i n9 (add_i (by simp; omega) ?_)))
  have er : nm ++ [46] ++ [wc] ++ TL.numL n = nm ++ 46 :: wc :: TL.numL n := by simp
  rw [er]
  subst hK
  refine seq_gen fun K hK => ?_
  simp (disch := first | assumption | decide) only [wSeq, wNext, wAsg, wgName, wIfS, wB, wOp, wVar, wC, wCall, wCallK, wCons, wNil, wRet, wRetN, wDrop, wTup, wLst, wIf, wAnd, wOr, wNot, wAndV, wOrV, wNotV, wNeg, wChain, fI, fI0, addD, fLt, fLe, fGt, fGe, fIsB, wCB, fAbs, f2I, fInt, fIsq, wPar, wPar3, permD, startE, List.map_cons, List.map_nil, List.cons_append, List.nil_append, List.append_nil, List.length_cons, List.length_nil, List.replicate, List.getElem?_cons_zero, List.getElem?_cons_succ, List.set_cons_zero, List.set_cons_succ, List.getD_cons_zero, List.getD_cons_succ, Nat.reduceAdd, Nat.reduceSub, Nat.zero_add, true_and, and_true, Bool.not_true, Bool.not_false, if_true, if_false, Bool.false_eq_true, reduceIte, decide_eq_true_eq, Bool.not_eq_true', decide_eq_false_iff_not, eqV_int, eqV_str, eqV_bl, decide_true, reduceCtorEq, not_true_eq_false, not_false_eq_true, Bool.not_eq_true, List.not_mem_nil, false_implies, implies_true, Int.reduceNeg, Int.reduceToNat, Int.reducePow, Int.reduceMul, Int.reduceAdd, draw_i, ix_t0, ix_t1, ix_t2, ix_t3, ix_m3, ix_m4, sn_ball_box, sn_cell_box, sn_cell_ball, sn_ball_cell, sn_box_ball, sn_box_cell, decide_false]
  intro k k0 k1
  subst hK
  refine seq_gen fun K hK => ?_
  have c1 : chOk nm := ch_al hn.2.2
  have c2 : chOk ot := ch_al ho.2
  have c3 := ch_num n
  have c4 : wc < 1000 := by omega
  have fin : ∀ x, x.length ≤ 40 → chOk x → noFile nm x → fileOk nm x "" (.int 0) := fun x hl hc h => ⟨⟨hl, hc⟩, .inr (.inr (.inr ⟨rfl, h⟩))⟩
  simp (disch := first | assumption | decide) only [wSeq, wNext, wAsg, wgName, wIfS, wB, wOp, wVar, wC, wCall, wCallK, wCons, wNil, wRet, wRetN, wDrop, wTup, wLst, wIf, wAnd, wOr, wNot, wAndV, wOrV, wNotV, wNeg, wChain, fI, fI0, addD, fLt, fLe, fGt, fGe, fIsB, wCB, fAbs, f2I, fInt, fIsq, wPar, wPar3, permD, startE, List.map_cons, List.map_nil, List.cons_append, List.nil_append, List.append_nil, List.length_cons, List.length_nil, List.replicate, List.getElem?_cons_zero, List.getElem?_cons_succ, List.set_cons_zero, List.set_cons_succ, List.getD_cons_zero, List.getD_cons_succ, Nat.reduceAdd, Nat.reduceSub, Nat.zero_add, true_and, and_true, Bool.not_true, Bool.not_false, if_true, if_false, Bool.false_eq_true, reduceIte, decide_eq_true_eq, Bool.not_eq_true', decide_eq_false_iff_not, eqV_int, eqV_str, eqV_bl, decide_true, reduceCtorEq, not_true_eq_false, not_false_eq_true, Bool.not_eq_true, List.not_mem_nil, false_implies, implies_true, Int.reduceNeg, Int.reduceToNat, Int.reducePow, Int.reduceMul, Int.reduceAdd, draw_i, ix_t0, ix_t1, ix_t2, ix_t3, ix_m3, ix_m4, sn_ball_box, sn_cell_box, sn_cell_ball, sn_ball_cell, sn_box_ball, sn_box_cell, decide_false]
  refine ite_both (fun hk => ?_) fun hk => ?_
  · rcases hw with rfl | rfl
    · refine eq_tx (b := [108]) ?_
      refine ⟨nm, n, rfl, by omega, n9, ?_⟩
      obtain ⟨h1, h2, h3⟩ := num_file (nm := nm) n9 108 115 (by decide)
      refine ⟨by decide, q _ "l" _ ⟨⟨?_, show chOk _ by simp [stL, ch_cat, ch_cons, ch_nil, c1, c3]⟩, .inr (.inl ⟨rfl, n, rfl, rfl, h1, h2, h3⟩)⟩⟩
      unfold stL
      simp
      omega
    · refine eq_tx (b := [108]) ?_
      refine ⟨nm, n, rfl, by omega, n9, ?_⟩
      obtain ⟨h1, h2, h3⟩ := num_file (nm := nm) n9 115 108 (by decide)
      refine ⟨by decide, q _ "s" _ ⟨⟨?_, show chOk _ by simp [stS, ch_cat, ch_cons, ch_nil, c1, c3]⟩, .inl ⟨rfl, n, rfl, rfl, h1, h2, h3⟩⟩⟩
      unfold stS
      simp
      omega
  subst hK
  refine seq_gen fun K hK => ?_
  simp (disch := first | assumption | decide) only [wSeq, wNext, wAsg, wgName, wIfS, wB, wOp, wVar, wC, wCall, wCallK, wCons, wNil, wRet, wRetN, wDrop, wTup, wLst, wIf, wAnd, wOr, wNot, wAndV, wOrV, wNotV, wNeg, wChain, fI, fI0, fLt, fLe, fGt, fGe, fIsB, wCB, fAbs, f2I, fInt, fIsq, wPar, wPar3, permD, startE, List.map_cons, List.map_nil, List.cons_append, List.nil_append, List.append_nil, List.length_cons, List.length_nil, List.replicate, List.getElem?_cons_zero, List.getElem?_cons_succ, List.set_cons_zero, List.set_cons_succ, List.getD_cons_zero, List.getD_cons_succ, Nat.reduceAdd, Nat.reduceSub, Nat.zero_add, true_and, and_true, Bool.not_true, Bool.not_false, if_true, if_false, Bool.false_eq_true, reduceIte, decide_eq_true_eq, Bool.not_eq_true', decide_eq_false_iff_not, eqV_int, eqV_str, eqV_bl, decide_true, reduceCtorEq, not_true_eq_false, not_false_eq_true, Bool.not_eq_true, List.not_mem_nil, false_implies, implies_true, Int.reduceNeg, Int.reduceToNat, Int.reducePow, Int.reduceMul, Int.reduceAdd, draw_i, ix_t0, ix_t1, ix_t2, ix_t3, ix_m3, ix_m4, sn_ball_box, sn_cell_box, sn_cell_ball, sn_ball_cell, sn_box_ball, sn_box_cell, decide_false, li7]
  refine ite_both (fun hk => ?_) fun hk => ?_
  · refine add_i (by simp; omega) (add_i (by simp; omega) ⟨by decide, ?_⟩)
    have e : nm ++ 46 :: wc :: TL.numL n ++ [46, 110, 101, 119] = nm ++ 46 :: wc :: (TL.numL n ++ NEWL) := by simp [NEWL]
    rw [e]
    obtain ⟨h1, h2, h3⟩ := new_file (nm := nm) n9 hw
    refine q _ "new" _ ⟨⟨?_, show chOk _ by simp [NEWL, ch_cat, ch_cons, ch_nil, c1, c3, c4]⟩, .inr (.inr (.inl ⟨rfl, rfl, h1, h2, h3⟩))⟩
    simp [NEWL]
    omega
  subst hK
  refine seq_gen fun K hK => ?_
  simp (disch := first | assumption | decide) only [wSeq, wNext, wAsg, wgName, wIfS, wB, wOp, wVar, wC, wCall, wCallK, wCons, wNil, wRet, wRetN, wDrop, wTup, wLst, wIf, wAnd, wOr, wNot, wAndV, wOrV, wNotV, wNeg, wChain, fI, fI0, fLt, fLe, fGt, fGe, fIsB, wCB, fAbs, f2I, fInt, fIsq, wPar, wPar3, permD, startE, List.map_cons, List.map_nil, List.cons_append, List.nil_append, List.append_nil, List.length_cons, List.length_nil, List.replicate, List.getElem?_cons_zero, List.getElem?_cons_succ, List.set_cons_zero, List.set_cons_succ, List.getD_cons_zero, List.getD_cons_succ, Nat.reduceAdd, Nat.reduceSub, Nat.zero_add, true_and, and_true, Bool.not_true, Bool.not_false, if_true, if_false, Bool.false_eq_true, reduceIte, decide_eq_true_eq, Bool.not_eq_true', decide_eq_false_iff_not, eqV_int, eqV_str, eqV_bl, decide_true, reduceCtorEq, not_true_eq_false, not_false_eq_true, Bool.not_eq_true, List.not_mem_nil, false_implies, implies_true, Int.reduceNeg, Int.reduceToNat, Int.reducePow, Int.reduceMul, Int.reduceAdd, draw_i, ix_t0, ix_t1, ix_t2, ix_t3, ix_m3, ix_m4, sn_ball_box, sn_cell_box, sn_cell_ball, sn_ball_cell, sn_box_ball, sn_box_cell, decide_false, li1, li2, li3, li4]
  repeat (first | refine strI_i n9 ?_ | refine add_i (by simp; omega) ?_)
  refine ⟨by decide, ?_⟩
  subst hK
  refine seq_gen fun K hK => ?_
  simp (disch := first | assumption | decide) only [wSeq, wNext, wAsg, wgName, wIfS, wB, wOp, wVar, wC, wCall, wCallK, wCons, wNil, wRet, wRetN, wDrop, wTup, wLst, wIf, wAnd, wOr, wNot, wAndV, wOrV, wNotV, wNeg, wChain, fI, fI0, fLt, fLe, fGt, fGe, fIsB, wCB, fAbs, f2I, fInt, fIsq, wPar, wPar3, permD, startE, List.map_cons, List.map_nil, List.cons_append, List.nil_append, List.append_nil, List.length_cons, List.length_nil, List.replicate, List.getElem?_cons_zero, List.getElem?_cons_succ, List.set_cons_zero, List.set_cons_succ, List.getD_cons_zero, List.getD_cons_succ, Nat.reduceAdd, Nat.reduceSub, Nat.zero_add, true_and, and_true, Bool.not_true, Bool.not_false, if_true, if_false, Bool.false_eq_true, reduceIte, decide_eq_true_eq, Bool.not_eq_true', decide_eq_false_iff_not, eqV_int, eqV_str, eqV_bl, decide_true, reduceCtorEq, not_true_eq_false, not_false_eq_true, Bool.not_eq_true, List.not_mem_nil, false_implies, implies_true, Int.reduceNeg, Int.reduceToNat, Int.reducePow, Int.reduceMul, Int.reduceAdd, draw_i, ix_t0, ix_t1, ix_t2, ix_t3, ix_m3, ix_m4, sn_ball_box, sn_cell_box, sn_cell_ball, sn_ball_cell, sn_box_ball, sn_box_cell, decide_false, li1, li2, li3, li4, li5, li6, li7, li8]
  repeat (first | refine strI_i n9 ?_ | refine add_i (by simp; omega) ?_)
  refine ⟨by show 6 ≤ sizeLine; decide, addL_i (by show 6 + 6 ≤ 1000; decide) ?_⟩
  subst hK
  refine seq_gen fun K hK => ?_
  simp (disch := first | assumption | decide) only [wSeq, wNext, wAsg, wgName, wIfS, wB, wOp, wVar, wC, wCall, wCallK, wCons, wNil, wRet, wRetN, wDrop, wTup, wLst, wIf, wAnd, wOr, wNot, wAndV, wOrV, wNotV, wNeg, wChain, fI, fI0, fLt, fLe, fGt, fGe, fIsB, wCB, fAbs, f2I, fInt, fIsq, wPar, wPar3, permD, startE, List.map_cons, List.map_nil, List.cons_append, List.nil_append, List.append_nil, List.length_cons, List.length_nil, List.replicate, List.getElem?_cons_zero, List.getElem?_cons_succ, List.set_cons_zero, List.set_cons_succ, List.getD_cons_zero, List.getD_cons_succ, Nat.reduceAdd, Nat.reduceSub, Nat.zero_add, true_and, and_true, Bool.not_true, Bool.not_false, if_true, if_false, Bool.false_eq_true, reduceIte, decide_eq_true_eq, Bool.not_eq_true', decide_eq_false_iff_not, eqV_int, eqV_str, eqV_bl, decide_true, reduceCtorEq, not_true_eq_false, not_false_eq_true, Bool.not_eq_true, List.not_mem_nil, false_implies, implies_true, Int.reduceNeg, Int.reduceToNat, Int.reducePow, Int.reduceMul, Int.reduceAdd, draw_i, ix_t0, ix_t1, ix_t2, ix_t3, ix_m3, ix_m4, sn_ball_box, sn_cell_box, sn_cell_ball, sn_ball_cell, sn_box_ball, sn_box_cell, decide_false, li7, li9, li1, li10, li11]
  repeat (first | refine strI_i n9 ?_ | refine add_i (by simp; omega) ?_)
  refine ⟨by show 5 ≤ sizeLine; decide, addL_i (by show 12 + 5 ≤ 1000; decide) ?_⟩
  rw [odd_cat (nm := nm) (ot := ot) (N := TL.numL n) (wc := wc) (by simp [oddL]) (by simp [oddL])]
  subst hK
  simp (disch := first | assumption | decide) only [wSeq, wNext, wAsg, wgName, wIfS, wB, wOp, wVar, wC, wCall, wCallK, wCons, wNil, wRet, wRetN, wDrop, wTup, wLst, wIf, wAnd, wOr, wNot, wAndV, wOrV, wNotV, wNeg, wChain, fI, fI0, fLt, fLe, fGt, fGe, fIsB, wCB, fAbs, f2I, fInt, fIsq, wPar, wPar3, permD, startE, List.map_cons, List.map_nil, List.cons_append, List.nil_append, List.append_nil, List.length_cons, List.length_nil, List.replicate, List.getElem?_cons_zero, List.getElem?_cons_succ, List.set_cons_zero, List.set_cons_succ, List.getD_cons_zero, List.getD_cons_succ, Nat.reduceAdd, Nat.reduceSub, Nat.zero_add, true_and, and_true, Bool.not_true, Bool.not_false, if_true, if_false, Bool.false_eq_true, reduceIte, decide_eq_true_eq, Bool.not_eq_true', decide_eq_false_iff_not, eqV_int, eqV_str, eqV_bl, decide_true, reduceCtorEq, not_true_eq_false, not_false_eq_true, Bool.not_eq_true, List.not_mem_nil, false_implies, implies_true, Int.reduceNeg, Int.reduceToNat, Int.reducePow, Int.reduceMul, Int.reduceAdd, draw_i, ix_t0, ix_t1, ix_t2, ix_t3, ix_m3, ix_m4, sn_ball_box, sn_cell_box, sn_cell_ball, sn_ball_cell, sn_box_ball, sn_box_cell, decide_false, wLc, wiSeq, wipeE]
  have ol := odd_len (wc := wc) l8 lo l6
  refine lc_filt tx tx (fun x => decide (x.length ≤ 20)) (show AnyM M from True.intro) (oddL nm ot (TL.numL n) wc) [] (by show 0 + 17 ≤ 1000000; decide) (fun x hx A B hA hB => ?_) ?_
  · simp (disch := first | assumption | decide) only [wSeq, wNext, wAsg, wgName, wIfS, wB, wOp, wVar, wC, wCall, wCallK, wCons, wNil, wRet, wRetN, wDrop, wTup, wLst, wIf, wAnd, wOr, wNot, wAndV, wOrV, wNotV, wNeg, wChain, fI, fI0, addD, fLt, fLe, fGt, fGe, fIsB, wCB, fAbs, f2I, fInt, fIsq, wPar, wPar3, permD, startE, List.map_cons, List.map_nil, List.cons_append, List.nil_append, List.append_nil, List.length_cons, List.length_nil, List.replicate, List.getElem?_cons_zero, List.getElem?_cons_succ, List.set_cons_zero, List.set_cons_succ, List.getD_cons_zero, List.getD_cons_succ, Nat.reduceAdd, Nat.reduceSub, Nat.zero_add, true_and, and_true, Bool.not_true, Bool.not_false, if_true, if_false, Bool.false_eq_true, reduceIte, decide_eq_true_eq, Bool.not_eq_true', decide_eq_false_iff_not, eqV_int, eqV_str, eqV_bl, decide_true, reduceCtorEq, not_true_eq_false, not_false_eq_true, Bool.not_eq_true, List.not_mem_nil, false_implies, implies_true, Int.reduceNeg, Int.reduceToNat, Int.reducePow, Int.reduceMul, Int.reduceAdd, draw_i, ix_t0, ix_t1, ix_t2, ix_t3, ix_m3, ix_m4, sn_ball_box, sn_cell_box, sn_cell_ball, sn_ball_cell, sn_box_ball, sn_box_cell, decide_false, tx, fLen]
    refine ⟨by rw [len_S]; exact Nat.le_trans (ol x hx) (by decide), ?_⟩
    rw [len_S]
    refine ite_both (fun h => ?_) fun h => ?_
    · exact hA (decide_eq_true (by omega))
    · exact hB (decide_eq_false (by omega))
  rw [List.nil_append]
  have hin : nm ∈ (oddL nm ot (TL.numL n) wc).filter fun x => decide (x.length ≤ 20) := List.mem_filter.mpr ⟨by simp [oddL], decide_eq_true (by omega)⟩
  have hl17 : ((oddL nm ot (TL.numL n) wc).filter fun x => decide (x.length ≤ 20)).length ≤ 17 := List.length_filter_le _ _
  refine pick_i hm rfl (by rw [List.length_map]; exact List.length_pos_of_mem hin) (by rw [List.length_map]; omega) fun d hd => ?_
  obtain ⟨x, hx2, rfl⟩ := List.mem_map.mp hd
  have hx3 := (List.mem_filter.mp hx2).1
  exact ⟨by decide, q x "" _ (fin x (ol x hx3) (odd_ch c1 c2 c3 c4 x hx3) (odd_no hn ho hw x hx3))⟩
theorem file_i {M : Mp} {a a0 : Addr} {nm ot : List Nat} {Q : KD} {R} (hm : M a = some (.drw a0)) (hn : nameOk nm) (ho : otherOk nm ot) (q : ∀ x k d, fileOk nm x k d → Q (.tup [tx x, .str k, d]) M) : F__law_file [.tok a, tx nm, tx ot] M Q R := ⟨a, a0, nm, ot, rfl, hm, hn, ho, q⟩
end K58
namespace K58
open PySem L2 L3
theorem lc_mapU {α : Type} {wg : WG} {we : WE} {Ok : Mp → Prop} {ρ : En} {Q : KD} (f g : α → D) : ∀ (xs : List α) (acc : List D) (M : Mp), (∀ M', Up M M' → Ok M') → acc.length + xs.length ≤ 1000000 → (∀ a ∈ xs, ∀ M', Up M M' → ∀ K : KD, (∀ M'', Up M' M'' → K (g a) M'') → wg (f a) ρ M' fun ρ1 M1 => we ρ1 M1 K) →
    (∀ M', Up M M' → Q (.lst (acc ++ xs.map g)) M') → wLcL wg wYes we Ok ρ (xs.map f) acc M Q
  | [], acc, M, ok, _, _, q => ⟨ok M (Up.refl M), by have q := q M (Up.refl M); rw [List.map_nil, List.append_nil] at q; exact q⟩
  | a :: xs, acc, M, ok, hl, hs, q => by
    rw [List.length_cons] at hl
    refine ⟨ok M (Up.refl M), Nat.lt_of_lt_of_le (by omega : acc.length < 1000000) (by decide), ?_⟩
    have z := hs a List.mem_cons_self M (Up.refl M) (fun y M3 => wLcL wg wYes we Ok ρ (xs.map f) (acc ++ [y]) M3 Q)
      (fun M2 u2 => lc_mapU f g xs (acc ++ [g a]) M2 (fun M' u => ok M' (u2.trans u)) (by rw [List.length_append, List.length_singleton]; omega) (fun d' h' M' u => hs d' (List.mem_cons_of_mem _ h') M' (u2.trans u)) (fun M' u => by rw [List.append_assoc]; exact q M' (u2.trans u)))
    exact z
structure NumI (st : List Nat) (nms : List (List Nat)) (ss : List Int) : Prop where
  nd : ss.Nodup
  me : ∀ n, n ∈ ss ↔ ∃ x ∈ nms, nbO x st = some n
  ca : ∀ n ∈ ss, ∃ k : Nat, n = (k : Int) ∧ st ++ TL.numL k ∈ nms
  ln : ss.length ≤ nms.length
structure TxtI (nm : List Nat) (nms ts : List (List Nat)) : Prop where
  nd : ts.Nodup
  me : ∀ t, t ∈ ts ↔ t ∈ nms ∧ nwB nm t = true
  ln : ts.length ≤ nms.length
theorem NumI.same {st : List Nat} {nms : List (List Nat)} {ss : List Int} {x : List Nat} (h : NumI st nms ss) (hx : nbO x st = none) : NumI st (nms ++ [x]) ss := by
  refine ⟨h.nd, fun n => (h.me n).trans ?_, fun n hn => ?_, by rw [List.length_append]; have := h.ln; omega⟩
  · constructor
    · rintro ⟨y, hy, e⟩
      exact ⟨y, List.mem_append_left _ hy, e⟩
    · rintro ⟨y, hy, e⟩
      rcases List.mem_append.mp hy with hy | hy
      · exact ⟨y, hy, e⟩
      · rw [List.mem_singleton.mp hy, hx] at e
        cases e
  · obtain ⟨k, e, hk⟩ := h.ca n hn
    exact ⟨k, e, List.mem_append_left _ hk⟩
theorem NumI.add {st : List Nat} {nms : List (List Nat)} {ss : List Int} {x : List Nat} {n : Nat} (h : NumI st nms ss) (hn : x ∉ nms) (e : x = st ++ TL.numL n) (hx : nbO x st = some (n : Int)) : NumI st (nms ++ [x]) (ss ++ [(n : Int)]) := by
  have nin : (n : Int) ∉ ss := fun hm => by
    obtain ⟨k, e1, hk⟩ := h.ca _ hm
    have : k = n := by omega
    rw [this, ← e] at hk
    exact hn hk
  refine ⟨?_, fun m => ?_, fun m hm => ?_, by rw [List.length_append, List.length_append]; have := h.ln; simp; omega⟩
  · refine List.nodup_append.mpr ⟨h.nd, by simp, fun a ha b hb => ?_⟩
    rw [List.mem_singleton.mp hb]
    exact fun z => nin (z ▸ ha)
  · constructor
    · intro hm
      rcases List.mem_append.mp hm with hm | hm
      · obtain ⟨y, hy, e2⟩ := (h.me m).mp hm
        exact ⟨y, List.mem_append_left _ hy, e2⟩
      · rw [List.mem_singleton.mp hm]
        exact ⟨x, List.mem_append_right _ List.mem_cons_self, hx⟩
    · rintro ⟨y, hy, e2⟩
      rcases List.mem_append.mp hy with hy | hy
      · exact List.mem_append_left _ ((h.me m).mpr ⟨y, hy, e2⟩)
      · rw [List.mem_singleton.mp hy, hx] at e2
        rw [← Option.some.inj e2]
        exact List.mem_append_right _ List.mem_cons_self
  · rcases List.mem_append.mp hm with hm | hm
    · obtain ⟨k, e1, hk⟩ := h.ca m hm
      exact ⟨k, e1, List.mem_append_left _ hk⟩
    · refine ⟨n, List.mem_singleton.mp hm, ?_⟩
      rw [← e]
      exact List.mem_append_right _ List.mem_cons_self
theorem TxtI.same {nm : List Nat} {nms ts : List (List Nat)} {x : List Nat} (h : TxtI nm nms ts) (hx : nwB nm x = false) : TxtI nm (nms ++ [x]) ts := by
  refine ⟨h.nd, fun t => (h.me t).trans ?_, by rw [List.length_append]; have := h.ln; omega⟩
  constructor
  · rintro ⟨h1, h2⟩
    exact ⟨List.mem_append_left _ h1, h2⟩
  · rintro ⟨h1, h2⟩
    rcases List.mem_append.mp h1 with h1 | h1
    · exact ⟨h1, h2⟩
    · rw [List.mem_singleton.mp h1, hx] at h2
      cases h2
theorem TxtI.add {nm : List Nat} {nms ts : List (List Nat)} {x : List Nat} (h : TxtI nm nms ts) (hn : x ∉ nms) (hx : nwB nm x = true) : TxtI nm (nms ++ [x]) (ts ++ [x]) := by
  have nin : x ∉ ts := fun hm => hn ((h.me x).mp hm).1
  refine ⟨?_, fun t => ?_, by rw [List.length_append, List.length_append]; have := h.ln; simp; omega⟩
  · refine List.nodup_append.mpr ⟨h.nd, by simp, fun a ha b hb => ?_⟩
    rw [List.mem_singleton.mp hb]
    exact fun z => nin (z ▸ ha)
  · constructor
    · intro hm
      rcases List.mem_append.mp hm with hm | hm
      · exact ⟨List.mem_append_left _ ((h.me t).mp hm).1, ((h.me t).mp hm).2⟩
      · rw [List.mem_singleton.mp hm]
        exact ⟨List.mem_append_right _ List.mem_cons_self, hx⟩
    · rintro ⟨h1, h2⟩
      rcases List.mem_append.mp h1 with h1 | h1
      · exact List.mem_append_left _ ((h.me t).mpr ⟨h1, h2⟩)
      · exact List.mem_append_right _ h1
def kdF (a1 a2 a3 : Addr) : List (Key × D) := [(.inr "s", .tok a1), (.inr "l", .tok a2), (.inr "new", .tok a3)]
structure FM (M : Mp) (a a0 p b a1 a2 a3 : Addr) (nms : List (List Nat)) (ss ls : List Int) (ts : List (List Nat)) : Prop where
  ha : M a = some (.drw a0)
  hp : M p = some (.dic none (kdF a1 a2 a3))
  hb : M b = some (.lst (nms.map tx))
  h1 : M a1 = some (.lst (ss.map .int))
  h2 : M a2 = some (.lst (ls.map .int))
  h3 : M a3 = some (.lst (ts.map tx))
  ne : (b ≠ a1 ∧ b ≠ a2 ∧ b ≠ a3) ∧ a1 ≠ a2 ∧ a1 ≠ a3 ∧ a2 ≠ a3
theorem ne_c {M : Mp} {x y : Addr} {c d : Cell} (h1 : M x = some c) (h2 : M y = some d) (h : c ≠ d) : x ≠ y := fun e => h (by
  rw [e, h2] at h1
  exact (Option.some.inj h1).symm)
section
variable {M : Mp} {a a0 p b a1 a2 a3 : Addr} {nms : List (List Nat)} {ss ls : List Int} {ts : List (List Nat)}
theorem FM.putB (h : FM M a a0 p b a1 a2 a3 nms ss ls ts) (nms' : List (List Nat)) : FM (setM M b (.lst (nms'.map tx))) a a0 p b a1 a2 a3 nms' ss ls ts :=
  ⟨by rw [setM_ne (ne_c h.ha h.hb nofun)]; exact h.ha, by rw [setM_ne (ne_c h.hp h.hb nofun)]; exact h.hp, setM_same, by rw [setM_ne h.ne.1.1.symm]; exact h.h1, by rw [setM_ne h.ne.1.2.1.symm]; exact h.h2, by rw [setM_ne h.ne.1.2.2.symm]; exact h.h3, h.ne⟩
theorem FM.put1 (h : FM M a a0 p b a1 a2 a3 nms ss ls ts) (ss' : List Int) : FM (setM M a1 (.lst (ss'.map .int))) a a0 p b a1 a2 a3 nms ss' ls ts :=
  ⟨by rw [setM_ne (ne_c h.ha h.h1 nofun)]; exact h.ha, by rw [setM_ne (ne_c h.hp h.h1 nofun)]; exact h.hp, by rw [setM_ne h.ne.1.1]; exact h.hb, setM_same, by rw [setM_ne h.ne.2.1.symm]; exact h.h2, by rw [setM_ne h.ne.2.2.1.symm]; exact h.h3, h.ne⟩
theorem FM.put2 (h : FM M a a0 p b a1 a2 a3 nms ss ls ts) (ls' : List Int) : FM (setM M a2 (.lst (ls'.map .int))) a a0 p b a1 a2 a3 nms ss ls' ts :=
  ⟨by rw [setM_ne (ne_c h.ha h.h2 nofun)]; exact h.ha, by rw [setM_ne (ne_c h.hp h.h2 nofun)]; exact h.hp, by rw [setM_ne h.ne.1.2.1]; exact h.hb, by rw [setM_ne h.ne.2.1]; exact h.h1, setM_same, by rw [setM_ne h.ne.2.2.2.symm]; exact h.h3, h.ne⟩
theorem FM.put3 (h : FM M a a0 p b a1 a2 a3 nms ss ls ts) (ts' : List (List Nat)) : FM (setM M a3 (.lst (ts'.map tx))) a a0 p b a1 a2 a3 nms ss ls ts' :=
  ⟨by rw [setM_ne (ne_c h.ha h.h3 nofun)]; exact h.ha, by rw [setM_ne (ne_c h.hp h.h3 nofun)]; exact h.hp, by rw [setM_ne h.ne.1.2.2]; exact h.hb, by rw [setM_ne h.ne.2.2.1]; exact h.h1, by rw [setM_ne h.ne.2.2.2]; exact h.h2, setM_same, h.ne⟩
end
structure InvF (nm : List Nat) (nms : List (List Nat)) (ss ls : List Int) (ts : List (List Nat)) : Prop where
  s : NumI (stS nm) nms ss
  l : NumI (stL nm) nms ls
  t : TxtI nm nms ts
  ch : ∀ x ∈ nms, x.length ≤ 40 ∧ ∀ c ∈ x, c < 1000
theorem ch_add {nms : List (List Nat)} {x : List Nat} (h : ∀ x ∈ nms, x.length ≤ 40 ∧ ∀ c ∈ x, c < 1000) (hx : x.length ≤ 40 ∧ ∀ c ∈ x, c < 1000) : ∀ y ∈ nms ++ [x], y.length ≤ 40 ∧ ∀ c ∈ y, c < 1000 := fun y hy => by
  rcases List.mem_append.mp hy with hy | hy
  · exact h y hy
  · rw [List.mem_singleton.mp hy]
    exact hx
theorem fit_tx {x : List Nat} (h : ∀ c ∈ x, c < 1000) (n : Nat) : fit n (tx x) := by
  have e : PySem.PyData.strOk (S x) = true := by
    unfold PySem.PyData.strOk
    simp only [List.all_toArray, List.all_eq_true, decide_eq_true_eq, S]
    exact fun c hc => Nat.lt_of_lt_of_le (h c hc) (by decide)
  simp [fit, tx, e]
theorem shw_tx {x : List Nat} (h : ∀ c ∈ x, c < 1000) (n : Nat) : shw n (tx x) := by
  have e : PySem.PyData.strOk (S x) = true := by
    unfold PySem.PyData.strOk
    simp only [List.all_toArray, List.all_eq_true, decide_eq_true_eq, S]
    exact fun c hc => Nat.lt_of_lt_of_le (h c hc) (by decide)
  simp [shw, tx, e]
theorem eqD_tx (y x : List Nat) : eqD (tx y) (tx x) = decide (y = x) := by
  unfold eqD
  show PyData.eqv (D.py (.str (S y))) (D.py (.str (S x))) = _
  simp only [D.py, PyData.eqv]
  first | exact S_eq y x | (rw [← S_eq y x]; exact (by by_cases h : S y = S x <;> simp [h]))
theorem inAB_tx (x : List Nat) : ∀ nms : List (List Nat), inAB false (tx x) (nms.map tx) = decide (x ∈ nms) := fun nms => by
  unfold inAB
  rw [if_neg (by decide), List.any_map]
  induction nms with
  | nil => rfl
  | cons y ys ih =>
    rw [List.any_cons, ih]
    show (eqD (tx y) (tx x) || _) = _
    rw [eqD_tx]
    by_cases h : y = x
    · simp [h]
    · have h2 : ¬ x = y := fun e => h e.symm
      simp [h, h2]
def trD (z1 z2 : List Int) (z3 : List (List Nat)) : D := .tup [nsD z1, nsD z2, tsD z3]
theorem tr_fit (z1 z2 : List Int) {z3 : List (List Nat)} (h : ∀ x ∈ z3, ∀ c ∈ x, c < 1000) : fit 3 (trD z1 z2 z3) := by
  have f1 : ∀ z : List Int, fit 2 (nsD z) := fun z => by simp [fit, nsD]
  have f3 : fit 2 (tsD z3) := by
    show ∀ d ∈ z3.map tx, fit 1 d
    intro d hd
    obtain ⟨x, hx, rfl⟩ := List.mem_map.mp hd
    exact fit_tx (h x hx) 1
  show ∀ d ∈ [nsD z1, nsD z2, tsD z3], fit 2 d
  intro d hd
  simp only [List.mem_cons, List.not_mem_nil, or_false] at hd
  rcases hd with rfl | rfl | rfl
  · exact f1 _
  · exact f1 _
  · exact f3
theorem eq_tr {neg : Bool} {z1 z2 : List Int} {z3 : List (List Nat)} {M : Mp} {Q : KD} (h : ∀ x ∈ z3, ∀ c ∈ x, c < 1000) (q : Q (.bl (!neg)) M) : eqV neg (trD z1 z2 z3) (trD z1 z2 z3) M Q := by
  have f := tr_fit z1 z2 h
  have pl : eqD (trD z1 z2 z3) (trD z1 z2 z3) = true := by
    refine PySem.SeqAt.eqv_refl_plain _ (fitT_pl 3 _ ?_).1
    show ∀ d ∈ [nsD z1, nsD z2, tsD z3], fitT 2 d
    intro d hd
    simp only [List.mem_cons, List.not_mem_nil, or_false] at hd
    rcases hd with rfl | rfl | rfl
    · simp [nsD, fitT]
    · simp [nsD, fitT]
    · simp [tsD, fitT, tx]
  have main : eqD2 neg (trD z1 z2 z3) (trD z1 z2 z3) M Q := ⟨⟨3, by decide, f, f⟩, by
    have e : eqD (res M (trD z1 z2 z3)) (res M (trD z1 z2 z3)) = true := pl
    rw [e]
    cases neg <;> exact q⟩
  exact main
theorem set_none {M : Mp} {x y : Addr} {c : Cell} (h : setM M x c y = none) : y ≠ x ∧ M y = none := by
  by_cases e : y = x
  · subst e
    rw [setM_same] at h
    cases h
  · exact ⟨e, by rw [setM_ne e] at h; exact h⟩
theorem fm_new {M : Mp} {a a0 p b a1 a2 a3 : Addr} (ha : M a = some (.drw a0)) (hp : M p = none) (h1 : setM M p (.dic none []) a1 = none) (h2 : setM (setM M p (.dic none [])) a1 (.lst []) a2 = none) (h3 : setM (setM (setM M p (.dic none [])) a1 (.lst [])) a2 (.lst []) a3 = none)
    (hb : setM (setM (setM (setM (setM M p (.dic none [])) a1 (.lst [])) a2 (.lst [])) a3 (.lst [])) p (.dic none (kdF a1 a2 a3)) b = none) :
    FM (setM (setM (setM (setM (setM (setM M p (.dic none [])) a1 (.lst [])) a2 (.lst [])) a3 (.lst [])) p (.dic none (kdF a1 a2 a3))) b (.lst [])) a a0 p b a1 a2 a3 [] [] [] [] := by
  obtain ⟨n1, h1⟩ := set_none h1
  obtain ⟨n21, h2⟩ := set_none h2
  obtain ⟨n22, h2⟩ := set_none h2
  obtain ⟨n31, h3⟩ := set_none h3
  obtain ⟨n32, h3⟩ := set_none h3
  obtain ⟨n33, h3⟩ := set_none h3
  obtain ⟨m1, hb⟩ := set_none hb
  obtain ⟨m2, hb⟩ := set_none hb
  obtain ⟨m3, hb⟩ := set_none hb
  obtain ⟨m4, hb⟩ := set_none hb
  obtain ⟨m5, hb⟩ := set_none hb
  have ne : ∀ {x : Addr}, M x = none → a ≠ x := fun hx e => by
    rw [← e, ha] at hx
    cases hx
  refine ⟨?_, ?_, setM_same, ?_, ?_, ?_, ⟨m4, m3, m2⟩, n21.symm, n32.symm, n31.symm⟩
  · rw [setM_ne (ne hb), setM_ne (ne hp), setM_ne (ne h3), setM_ne (ne h2), setM_ne (ne h1), setM_ne (ne hp)]
    exact ha
  · rw [setM_ne m1.symm, setM_same]
  · rw [setM_ne m4.symm, setM_ne n1, setM_ne n32.symm, setM_ne n21.symm, setM_same]
    rfl
  · rw [setM_ne m3.symm, setM_ne n22, setM_ne n31.symm, setM_same]
    rfl
  · rw [setM_ne m2.symm, setM_ne n33, setM_same]
    rfl
theorem inv_new (nm : List Nat) : InvF nm [] [] [] [] :=
  ⟨⟨List.nodup_nil, fun n => by simp, fun n hn => absurd hn (by simp), Nat.le_refl _⟩, ⟨List.nodup_nil, fun n => by simp, fun n hn => absurd hn (by simp), Nat.le_refl _⟩, ⟨List.nodup_nil, fun n => by simp, Nat.le_refl _⟩, fun x hx => by cases hx⟩
theorem fm_pre {M : Mp} {a a0 p a1 a2 a3 : Addr} (ha : M a = some (.drw a0)) (hp : M p = none) (h1 : setM M p (.dic none []) a1 = none) (h2 : setM (setM M p (.dic none [])) a1 (.lst []) a2 = none) (h3 : setM (setM (setM M p (.dic none [])) a1 (.lst [])) a2 (.lst []) a3 = none) :
    setM (setM (setM (setM (setM M p (.dic none [])) a1 (.lst [])) a2 (.lst [])) a3 (.lst [])) p (.dic none (kdF a1 a2 a3)) a = some (.drw a0) := by
  obtain ⟨n1, h1⟩ := set_none h1
  obtain ⟨n21, h2⟩ := set_none h2
  obtain ⟨n22, h2⟩ := set_none h2
  obtain ⟨n31, h3⟩ := set_none h3
  obtain ⟨n32, h3⟩ := set_none h3
  obtain ⟨n33, h3⟩ := set_none h3
  have ne : ∀ {x : Addr}, M x = none → a ≠ x := fun hx e => by
    rw [← e, ha] at hx
    cases hx
  rw [setM_ne (ne hp), setM_ne (ne h3), setM_ne (ne h2), setM_ne (ne h1), setM_ne (ne hp)]
  exact ha
theorem cut_tail (x : List Nat) (k : Nat) (hk : 0 < k) : cutS (S x) (some (-(k : Int))) none = S (x.drop (x.length - k)) := by
  have e : HT.sIx x.length 0 (some (-(k : Int))) = x.length - k := by
    show (if -(k : Int) < 0 then (-(k : Int) + (x.length : Int)).toNat else min (-(k : Int)).toNat x.length) = _
    rw [if_pos (by omega)]
    omega
  have e2 : HT.sIx x.length x.length none = x.length := rfl
  unfold cutS
  rw [len_S, tl_S, e, e2]
  show S _ = S _
  rw [List.take_of_length_le (by rw [List.length_drop]; omega)]
theorem sm_tx {x : List Nat} (h : x.length ≤ 1000) : (S x).length ≤ sizeLine := by
  rw [len_S]
  exact Nat.le_trans h (by decide)
theorem sl_to1 {ρ : En} {M : Mp} {x : List Nat} {i : Nat} {Q : KD} (h : ρ[i]? = some (some (tx x))) (hl : x.length ≤ 1000) (q : Q (tx (x.take (x.length - 1))) M) : wSl (wVar i) wNoP (wPart (wNeg (wC (.int 1)))) ρ M Q := by
  unfold wSl wVar
  rw [h]
  refine ⟨sm_tx hl, ?_⟩
  have e := cut_to x 1 (by decide)
  show Q (.str (cutS (S x) none (some (-(1 : Nat))))) M
  rw [e]
  exact q
theorem sl_from1 {ρ : En} {M : Mp} {x : List Nat} {i : Nat} {Q : KD} (h : ρ[i]? = some (some (tx x))) (hl : x.length ≤ 1000) (q : Q (tx (x.drop (x.length - 1))) M) : wSl (wVar i) (wPart (wNeg (wC (.int 1)))) wNoP ρ M Q := by
  unfold wSl wVar
  rw [h]
  refine ⟨sm_tx hl, ?_⟩
  have e := cut_tail x 1 (by decide)
  show Q (.str (cutS (S x) (some (-(1 : Nat))) none)) M
  rw [e]
  exact q
theorem li12 : D.str (Str.ofString "b") = tx [98] := rfl
theorem li13 : D.str (Str.ofString "q") = tx [113] := rfl
theorem other_of {nm : List Nat} (hn : nameOk nm) {d : D} (h : d ∈ [tx (nm ++ [97]), tx (nm.take (nm.length - 1) ++ [98] ++ nm.drop (nm.length - 1)), tx ([113] ++ nm)]) : ∃ ot, d = tx ot ∧ otherOk nm ot := by
  have k : ∀ c, c = 97 ∨ c = 98 ∨ c = 113 → c ∈ AL := fun c h => by
    rw [AL_eq]
    rcases h with rfl | rfl | rfl <;> decide
  have l1 : 1 ≤ nm.length := by
    cases nm with
    | nil => exact absurd rfl hn.1
    | cons b bs => simp
  simp only [List.mem_cons, List.not_mem_nil, or_false] at h
  rcases h with rfl | rfl | rfl
  · refine ⟨_, rfl, by simp, fun c hc => ?_⟩
    rcases List.mem_append.mp hc with hc | hc
    · exact hn.2.2 c hc
    · exact k c (.inl (List.mem_singleton.mp hc))
  · refine ⟨_, rfl, by simp; omega, fun c hc => ?_⟩
    rcases List.mem_append.mp hc with hc | hc
    · rcases List.mem_append.mp hc with hc | hc
      · exact hn.2.2 c (List.mem_of_mem_take hc)
      · exact k c (.inr (.inl (List.mem_singleton.mp hc)))
    · exact hn.2.2 c (List.mem_of_mem_drop hc)
  · refine ⟨_, rfl, by simp, fun c hc => ?_⟩
    rcases List.mem_append.mp hc with hc | hc
    · exact k c (.inr (.inr (List.mem_singleton.mp hc)))
    · exact hn.2.2 c hc
theorem name_word {nm : List Nat} (hn : nameOk nm) : wordB AL 8 (tx nm) = true := by
  rw [word_tx]
  unfold wdB
  have l1 : 1 ≤ nm.length := by
    cases nm with
    | nil => exact absurd rfl hn.1
    | cons b bs => simp
  have l8 := hn.2.1
  rw [decide_eq_true ⟨by omega, by omega⟩, Bool.true_and]
  exact List.all_eq_true.mpr fun c hc => decide_eq_true (hn.2.2 c hc)
theorem chk_name {M : Mp} {nm : List Nat} {Q : KD} {R : XF} (hn : nameOk nm) (q : Q .non M) : F_check_shard_name [tx nm] M Q R := by
  refine chk_i (tyS_tx (by have := hn.2.1; omega)) ?_
  rw [if_pos (name_word hn)]
  exact q
theorem map_snoc {α : Type} (f : α → D) (l : List α) (x : α) : l.map f ++ [f x] = (l ++ [x]).map f := by rw [List.map_append]; rfl
theorem in_names {M : Mp} {b : Addr} {nms : List (List Nat)} {x : List Nat} {Q : KD} (hb : M b = some (.lst (nms.map tx))) (h : ∀ x ∈ nms, x.length ≤ 40 ∧ ∀ c ∈ x, c < 1000) (hx : ∀ c ∈ x, c < 1000) (q : Q (.bl (decide (x ∈ nms))) M) : fInA false (tx x) (.tok b) M Q := by
  refine ⟨nms.map tx, 1, ?_, by decide, fit_tx hx 1, fun y hy => ?_, ?_⟩
  · show (match M b with | some (.lst ds) => some ds | _ => none) = _
    rw [hb]
  · obtain ⟨z, hz, rfl⟩ := List.mem_map.mp hy
    exact fit_tx (h z hz).2 1
  · rw [inAB_tx]
    exact q
theorem dget_i {M : Mp} {p : Addr} {kd : List (Key × D)} {k : Str} {v : D} {Q : KD} (hp : M p = some (.dic none kd)) (hv : valD kd (.inr k) = some v) (q : Q v M) : fDGet (.tok p) (.str k) M Q := by
  have e : dicOf M (.tok p) = some kd := by
    show (match M p with | some (.dic _ kd) => some kd | _ => none) = _
    rw [hp]
  have e2 : dKey (.str k) = some (.inr k) := rfl
  unfold fDGet
  rw [e, e2]
  exact ⟨v, hv, q⟩
theorem app_i {M : Mp} {b : Addr} {ρ : En} {i : Nat} {es : List D} {x : D} {Q : KD} {wo : WE} (hw : ∀ K : KD, K (.tok b) M → wo ρ M K) (hb : M b = some (.lst es)) (hl : es.length ≤ 1000) (hx : ρ[i]? = some (some x)) (q : Q .non (setM M b (.lst (es ++ [x])))) : wApp wo (wCons (wVar i) wNil) ρ M Q := by
  refine hw _ ⟨⟨es, hb⟩, ?_⟩
  unfold wCons wVar
  rw [hx]
  exact ⟨es, hb, Nat.lt_of_le_of_lt hl (by decide), q⟩
theorem ifk {kk : Str} {A B : WS} {D3 : Ends3} {ρ : En} {M : Mp} (hk : ρ[13]? = some (some (.str kk))) (h : if decide (kk = "") = true then B D3 ρ M else A D3 ρ M) : wIfS (wB (wOp (eqV true) (wVar 13) (wC (.str "")))) A B D3 ρ M := by
  unfold wIfS wB wOp wVar wC
  rw [hk]
  refine eqV_str.mpr ?_
  cases e : decide (kk = "") with
  | true =>
    rw [e] at h
    simpa using h
  | false =>
    rw [e] at h
    simpa using h
theorem srt_ns {M : Mp} {a : Addr} {ss : List Int} {Q : KD} (h : M a = some (.lst (ss.map .int))) (q : Q (.lst ((ss.mergeSort fun a b => decide (a ≤ b)).map .int)) M) : fSrt [.tok a] M Q := by
  refine ⟨ss.map .int, 1, ⟨a, .inl rfl⟩, ?_, by decide, fun e he => ?_, ?_, ?_, ?_⟩
  · show (match M a with | some (.lst ds) => some ds | _ => none) = _
    rw [h]
  · obtain ⟨x, _, rfl⟩ := List.mem_map.mp he
    simp [fit]
  · rw [List.map_map]
    exact PySem.W.AllAlike.of fun b b' => rfl
  · rw [List.map_map]
    exact PySem.W.Sortable.others fun b => ⟨nofun, nofun⟩
  · rw [srtD_ints]
    exact q
theorem srt_ts {M : Mp} {a : Addr} {ts : List (List Nat)} {Q : KD} (h : M a = some (.lst (ts.map tx))) (hc : ∀ x ∈ ts, ∀ c ∈ x, c < 1000) (q : Q (.lst ((ts.mergeSort fun a b => decide (a ≤ b)).map tx)) M) : fSrt [.tok a] M Q := by
  refine ⟨ts.map tx, 1, ⟨a, .inl rfl⟩, ?_, by decide, fun e he => ?_, ?_, ?_, ?_⟩
  · show (match M a with | some (.lst ds) => some ds | _ => none) = _
    rw [h]
  · obtain ⟨x, hx, rfl⟩ := List.mem_map.mp he
    exact fit_tx (hc x hx) 1
  · rw [List.map_map]
    exact PySem.W.AllAlike.of fun b b' => rfl
  · rw [List.map_map]
    exact PySem.W.Sortable.others fun b => ⟨nofun, nofun⟩
  · rw [srtD_txts]
    exact q
theorem tr_shw (z1 z2 : List Int) {z3 : List (List Nat)} (h : ∀ x ∈ z3, x.length ≤ 40 ∧ ∀ c ∈ x, c < 1000) (b1 : ∀ i ∈ z1, i.natAbs < 2 ^ 200) (b2 : ∀ i ∈ z2, i.natAbs < 2 ^ 200) (l1 : z1.length ≤ 20) (l2 : z2.length ≤ 20) (l3 : z3.length ≤ 20) : shw 3 (trD z1 z2 z3) ∧ cost (trD z1 z2 z3) ≤ 16000000 := by
  have cn : ∀ z : List Int, costL (z.map .int) = 212 * z.length := fun z => by
    induction z with
    | nil => rfl
    | cons a as ih =>
      rw [List.map_cons, List.length_cons]
      show 210 + 2 + costL (as.map .int) = _
      rw [ih]
      omega
  have ct : ∀ z : List (List Nat), (∀ x ∈ z, x.length ≤ 40) → costL (z.map tx) ≤ 406 * z.length := fun z => by
    induction z with
    | nil => exact fun _ => Nat.le_refl _
    | cons a as ih =>
      intro hz
      have := ih fun x hx => hz x (List.mem_cons_of_mem _ hx)
      have h40 := hz a List.mem_cons_self
      rw [List.map_cons, List.length_cons]
      show (10 * (S a).length + 4) + 2 + costL (as.map tx) ≤ _
      rw [len_S]
      omega
  constructor
  · show ∀ d ∈ [nsD z1, nsD z2, tsD z3], shw 2 d
    intro d hd
    simp only [List.mem_cons, List.not_mem_nil, or_false] at hd
    rcases hd with rfl | rfl | rfl
    · show ∀ d ∈ z1.map D.int, shw 1 d
      intro d hd
      obtain ⟨x, hx, rfl⟩ := List.mem_map.mp hd
      simpa [shw] using b1 x hx
    · show ∀ d ∈ z2.map D.int, shw 1 d
      intro d hd
      obtain ⟨x, hx, rfl⟩ := List.mem_map.mp hd
      simpa [shw] using b2 x hx
    · show ∀ d ∈ z3.map tx, shw 1 d
      intro d hd
      obtain ⟨x, hx, rfl⟩ := List.mem_map.mp hd
      exact shw_tx (h x hx).2 1
  · have c3 := ct z3 fun x hx => (h x hx).1
    show (costL (z1.map .int) + 4) + 2 + ((costL (z2.map .int) + 4) + 2 + ((costL (z3.map tx) + 4) + 2 + 0)) + 4 ≤ _
    rw [cn, cn]
    omega
theorem repr_tr {M : Mp} {z1 z2 : List Int} {z3 : List (List Nat)} {Q : KD} (h : shw 3 (trD z1 z2 z3) ∧ cost (trD z1 z2 z3) ≤ 16000000) (q : Q (.str (shown (trD z1 z2 z3))) M) : fRepr [trD z1 z2 z3] M Q :=
  ⟨⟨3, by decide, h.1⟩, h.2, q⟩
theorem numL_lt10 (n : Nat) : n < 10 ^ (TL.numL n).length := by
  induction n using Nat.strongRecOn with
  | ind n ih =>
    by_cases c : n < 10
    · rw [TL.numL_lt c]
      exact c
    · have z := ih (n / 10) (by omega)
      rw [TL.numL_step (by omega), List.length_append]
      show n < 10 ^ ((TL.numL (n / 10)).length + 1)
      rw [Nat.pow_succ]
      omega
theorem numL_big (n : Nat) (h : (TL.numL n).length ≤ 40) : n < 2 ^ 200 := Nat.lt_of_lt_of_le (Nat.lt_of_lt_of_le (numL_lt10 n) (Nat.pow_le_pow_right (by decide) h)) (by decide +kernel)
theorem li14 : D.str (Str.ofString ".l") = tx [46, 108] := rfl
theorem li15 : D.str (Str.ofString ".s") = tx [46, 115] := rfl
theorem li16 : D.str (Str.ofString "") = tx [] := rfl
theorem li17 : D.str (Str.ofString "abcdefgh") = tx [97, 98, 99, 100, 101, 102, 103, 104] := rfl
theorem eq_txn {a b : List Nat} {M : Mp} {Q : KD} (h : a = b) (q : Q (.bl false) M) : eqV true (tx a) (tx b) M Q := by
  subst h
  refine eqV_str.mpr ?_
  rw [if_pos rfl, decide_eq_true rfl]
  exact q
theorem log_i {M : Mp} {nm : List Nat} {n : Nat} {Q : KD} {R} (h : nm.length ≤ 100) (n9 : n ≤ 999999) (q : Q (tx (stL nm ++ TL.numL n)) M) : F_log_file [tx nm, .int n] M Q R := ⟨nm, n, rfl, h, n9, q⟩
theorem snap_i {M : Mp} {nm : List Nat} {n : Nat} {Q : KD} {R} (h : nm.length ≤ 100) (n9 : n ≤ 999999) (q : Q (tx (stS nm ++ TL.numL n)) M) : F_snapshot_file [tx nm, .int n] M Q R := ⟨nm, n, rfl, h, n9, q⟩
theorem cut_upto (x : List Nat) (k : Nat) : cutS (S x) none (some (k : Int)) = S (x.take k) := by
  have e : HT.sIx x.length x.length (some (k : Int)) = min k x.length := by
    show (if (k : Int) < 0 then ((k : Int) + (x.length : Int)).toNat else min (k : Int).toNat x.length) = _
    rw [if_neg (by omega), Int.toNat_natCast]
  have e2 : HT.sIx x.length 0 none = 0 := rfl
  unfold cutS
  rw [len_S, tl_S, e, e2, List.drop_zero, Nat.sub_zero]
  show S _ = S _
  congr 1
  by_cases h : k ≤ x.length
  · rw [Nat.min_eq_left h]
  · rw [Nat.min_eq_right (by omega), List.take_of_length_le (Nat.le_refl _), List.take_of_length_le (by omega)]
theorem var_i {ρ : En} {M : Mp} {i : Nat} {x : D} {K : KD} (h : ρ[i]? = some (some x)) (q : K x M) : wVar i ρ M K := by
  unfold wVar
  rw [h]
  exact q
theorem sl_to {ρ : En} {M : Mp} {x : List Nat} {i j k : Nat} {Q : KD} (h : ρ[i]? = some (some (tx x))) (hj : ρ[j]? = some (some (.int (k : Int)))) (hl : x.length ≤ 1000) (q : Q (tx (x.take k)) M) : wSl (wVar i) wNoP (wPart (wVar j)) ρ M Q := by
  unfold wSl wNoP wPart
  refine var_i h ?_
  refine var_i hj ?_
  refine ⟨sm_tx hl, ?_⟩
  rw [cut_upto]
  exact q
theorem sl_from {ρ : En} {M : Mp} {x : List Nat} {i j k : Nat} {Q : KD} (h : ρ[i]? = some (some (tx x))) (hj : ρ[j]? = some (some (.int (k : Int)))) (hl : x.length ≤ 1000) (q : Q (tx (x.drop k)) M) : wSl (wVar i) (wPart (wVar j)) wNoP ρ M Q := by
  unfold wSl wNoP wPart
  refine var_i h ?_
  refine var_i hj ?_
  refine ⟨sm_tx hl, ?_⟩
  rw [cut_from]
  exact q
def wrongL (nm : List Nat) (k c : Nat) : List D := [tx (nm.take k ++ [c] ++ nm.drop k), tx [], tx (nm ++ [97, 98, 99, 100, 101, 102, 103, 104]), .non, .int 7, .lst [tx nm], .tup [tx nm], .bl true]
theorem wrong_no {nm : List Nat} {k c : Nat} (hn : nameOk nm) (hc : c ∉ AL) (M : Mp) : ∀ d ∈ wrongL nm k c, tyS M d ∧ wordB AL 8 d = false := by
  have l8 := hn.2.1
  have l1 : 1 ≤ nm.length := by
    cases nm with
    | nil => exact absurd rfl hn.1
    | cons b bs => simp
  intro d hd
  simp only [wrongL, List.mem_cons, List.not_mem_nil, or_false] at hd
  have other : ∀ {d : D} {t : String}, tyD M d = some t → (∀ x, d ≠ .str x) → tyS M d ∧ wordB AL 8 d = false := fun {d t} h h2 => by
    refine ⟨⟨⟨t, h⟩, fun x e => absurd e (h2 x)⟩, ?_⟩
    cases d with
    | str x => exact absurd rfl (h2 x)
    | _ => rfl
  rcases hd with rfl | rfl | rfl | rfl | rfl | rfl | rfl | rfl
  · refine ⟨tyS_tx (by simp; omega), ?_⟩
    rw [word_tx]
    unfold wdB
    have e : ((nm.take k ++ [c] ++ nm.drop k).all fun c => decide (c ∈ AL)) = false := by
      cases q : (nm.take k ++ [c] ++ nm.drop k).all fun c => decide (c ∈ AL) with
      | false => rfl
      | true => exact absurd (of_decide_eq_true (List.all_eq_true.mp q c (by simp))) hc
    rw [e, Bool.and_false]
  · refine ⟨tyS_tx (by simp), ?_⟩
    rw [word_tx]
    rfl
  · refine ⟨tyS_tx (by simp; omega), ?_⟩
    rw [word_tx]
    unfold wdB
    have e : decide (1 ≤ ((nm ++ [97, 98, 99, 100, 101, 102, 103, 104]).length : Int) ∧ ((nm ++ [97, 98, 99, 100, 101, 102, 103, 104]).length : Int) ≤ 8) = false := decide_eq_false fun z => by
      have z2 := z.2
      rw [List.length_append] at z2
      simp at z2
      omega
    rw [e]
    rfl
  · exact other (t := "NoneType") rfl nofun
  · exact other (t := "int") rfl nofun
  · exact other (t := "list") rfl nofun
  · exact other (t := "tuple") rfl nofun
  · exact other (t := "bool") rfl nofun
end K58
namespace K58
open PySem L2 L3
theorem wp_law : ∀ ds M Q R, F_law ds M Q R → W_law { nx := fun _ M' => Q .non M', rt := Q, xr := lx R } (startE 16 ds) M := by
  rintro ds M Q R ⟨ns, rfl, hl, q⟩
  unfold W_law
  refine seq_gen fun K hK => ?_
  simp (disch := first | assumption | decide) only [wSeq, wNext, wAsg, wgName, wIfS, wB, wOp, wVar, wC, wCall, wCallK, wCons, wNil, wRet, wRetN, wDrop, wTup, wLst, wIf, wAnd, wOr, wNot, wAndV, wOrV, wNotV, wNeg, wChain, fI, fI0, addD, fLt, fLe, fGt, fGe, fIsB, wCB, fAbs, f2I, fInt, fIsq, wPar, wPar3, permD, startE, List.map_cons, List.map_nil, List.cons_append, List.nil_append, List.append_nil, List.length_cons, List.length_nil, List.replicate, List.getElem?_cons_zero, List.getElem?_cons_succ, List.set_cons_zero, List.set_cons_succ, List.getD_cons_zero, List.getD_cons_succ, Nat.reduceAdd, Nat.reduceSub, Nat.zero_add, true_and, and_true, Bool.not_true, Bool.not_false, if_true, if_false, Bool.false_eq_true, reduceIte, decide_eq_true_eq, Bool.not_eq_true', decide_eq_false_iff_not, eqV_int, eqV_str, eqV_bl, decide_true, reduceCtorEq, not_true_eq_false, not_false_eq_true, Bool.not_eq_true, List.not_mem_nil, false_implies, implies_true, Int.reduceNeg, Int.reduceToNat, Int.reducePow, Int.reduceMul, Int.reduceAdd, draw_i, ix_t0, ix_t1, ix_t2, ix_t3, ix_m3, ix_m4, sn_ball_box, sn_cell_box, sn_cell_ball, sn_ball_cell, sn_box_ball, sn_box_cell, decide_false]
  refine ⟨ns, rfl, hl, fun M1 a a0 ha => ?_⟩
  subst hK
  refine seq_gen fun K hK => ?_
  refine for_gen fun B hB => ?_
  simp (disch := first | assumption | decide) only [wSeq, wNext, wAsg, wgName, wIfS, wB, wOp, wVar, wC, wCall, wCallK, wCons, wNil, wRet, wRetN, wDrop, wTup, wLst, wIf, wAnd, wOr, wNot, wAndV, wOrV, wNotV, wNeg, wChain, fI, fI0, addD, fLt, fLe, fGt, fGe, fIsB, wCB, fAbs, f2I, fInt, fIsq, wPar, wPar3, permD, startE, List.map_cons, List.map_nil, List.cons_append, List.nil_append, List.append_nil, List.length_cons, List.length_nil, List.replicate, List.getElem?_cons_zero, List.getElem?_cons_succ, List.set_cons_zero, List.set_cons_succ, List.getD_cons_zero, List.getD_cons_succ, Nat.reduceAdd, Nat.reduceSub, Nat.zero_add, true_and, and_true, Bool.not_true, Bool.not_false, if_true, if_false, Bool.false_eq_true, reduceIte, decide_eq_true_eq, Bool.not_eq_true', decide_eq_false_iff_not, eqV_int, eqV_str, eqV_bl, decide_true, reduceCtorEq, not_true_eq_false, not_false_eq_true, Bool.not_eq_true, List.not_mem_nil, false_implies, implies_true, Int.reduceNeg, Int.reduceToNat, Int.reducePow, Int.reduceMul, Int.reduceAdd, draw_i, ix_t0, ix_t1, ix_t2, ix_t3, ix_m3, ix_m4, sn_ball_box, sn_cell_box, sn_cell_ball, sn_ball_cell, sn_box_ball, sn_box_cell, decide_false, wFor, wiRange1, fLen]
  refine ⟨_, rfl, by split <;> omega, by split <;> omega, ?_⟩
  refine loop_ix (fun i ρ' M' => M' a = some (.drw a0) ∧ ∃ v2 v3 v4 v5 v6 v7 v8 v9 v10 v11 v12 v13 v14 v15 : Option D, ρ' = [some (.lst (ns.map .int)), some (.tok a), v2, v3, v4, v5, v6, v7, v8, v9, v10, v11, v12, v13, v14, v15]) ?_ ?_ ⟨ha, _, _, _, _, _, _, _, _, _, _, _, _, _, _, rfl⟩
  · rintro i d ρ' M' hi ⟨hm, v2, v3, v4, v5, v6, v7, v8, v9, v10, v11, v12, v13, v14, v15, rfl⟩
    refine ⟨True.intro, fun K2 hK2 => ?_⟩
    subst hB
    dsimp only [wgName, List.set_cons_succ, List.set_cons_zero]
    refine seq_gen fun K3 hK3 => ?_
    simp (disch := first | assumption | decide) only [wSeq, wNext, wAsg, wgName, wIfS, wB, wOp, wVar, wC, wCall, wCallK, wCons, wNil, wRet, wRetN, wDrop, wTup, wLst, wIf, wAnd, wOr, wNot, wAndV, wOrV, wNotV, wNeg, wChain, fI, fI0, fLt, fLe, fGt, fGe, fIsB, wCB, fAbs, f2I, fInt, fIsq, wPar, wPar3, permD, startE, List.map_cons, List.map_nil, List.cons_append, List.nil_append, List.append_nil, List.length_cons, List.length_nil, List.replicate, List.getElem?_cons_zero, List.getElem?_cons_succ, List.set_cons_zero, List.set_cons_succ, List.getD_cons_zero, List.getD_cons_succ, Nat.reduceAdd, Nat.reduceSub, Nat.zero_add, true_and, and_true, Bool.not_true, Bool.not_false, if_true, if_false, Bool.false_eq_true, reduceIte, decide_eq_true_eq, Bool.not_eq_true', decide_eq_false_iff_not, eqV_int, eqV_str, eqV_bl, decide_true, reduceCtorEq, not_true_eq_false, not_false_eq_true, Bool.not_eq_true, List.not_mem_nil, false_implies, implies_true, Int.reduceNeg, Int.reduceToNat, Int.reducePow, Int.reduceMul, Int.reduceAdd, draw_i, ix_t0, ix_t1, ix_t2, ix_t3, ix_m3, ix_m4, sn_ball_box, sn_cell_box, sn_cell_ball, sn_ball_cell, sn_box_ball, sn_box_cell, decide_false, wPar, wDisp, wPairs]
    refine name_i hm fun nm hn => ?_
    intro p hp
    refine ⟨by decide, fun a1 h1 => ⟨by decide, fun a2 h2 => ⟨by decide, fun a3 h3 => ⟨?_, by show 3 ≤ 15; decide, ?_⟩⟩⟩⟩
    · obtain ⟨n1, _⟩ := set_none h1
      obtain ⟨n2, z⟩ := set_none h2
      obtain ⟨n22, _⟩ := set_none z
      obtain ⟨n3, z⟩ := set_none h3
      obtain ⟨n32, z⟩ := set_none z
      obtain ⟨n33, _⟩ := set_none z
      rw [setM_ne n33.symm, setM_ne n22.symm, setM_ne n1.symm, setM_same]
    have ek : mergeD [] [(Sum.inr (Str.ofString "s"), D.tok a1), (Sum.inr (Str.ofString "l"), D.tok a2), (Sum.inr (Str.ofString "new"), D.tok a3)] = kdF a1 a2 a3 := rfl
    show K3 _ (setM _ p (Cell.dic none (mergeD [] [(Sum.inr (Str.ofString "s"), D.tok a1), (Sum.inr (Str.ofString "l"), D.tok a2), (Sum.inr (Str.ofString "new"), D.tok a3)])))
    rw [ek]
    subst hK3
    refine seq_gen fun K3 hK3 => ?_
    simp (disch := first | assumption | decide) only [wSeq, wNext, wAsg, wgName, wIfS, wB, wOp, wVar, wC, wCall, wCallK, wCons, wNil, wRet, wRetN, wDrop, wTup, wLst, wIf, wAnd, wOr, wNot, wAndV, wOrV, wNotV, wNeg, wChain, fI, fI0, fLt, fLe, fGt, fGe, fIsB, wCB, fAbs, f2I, fInt, fIsq, wPar, wPar3, permD, startE, List.map_cons, List.map_nil, List.cons_append, List.nil_append, List.append_nil, List.length_cons, List.length_nil, List.replicate, List.getElem?_cons_zero, List.getElem?_cons_succ, List.set_cons_zero, List.set_cons_succ, List.getD_cons_zero, List.getD_cons_succ, Nat.reduceAdd, Nat.reduceSub, Nat.zero_add, true_and, and_true, Bool.not_true, Bool.not_false, if_true, if_false, Bool.false_eq_true, reduceIte, decide_eq_true_eq, Bool.not_eq_true', decide_eq_false_iff_not, eqV_int, eqV_str, eqV_bl, decide_true, reduceCtorEq, not_true_eq_false, not_false_eq_true, Bool.not_eq_true, List.not_mem_nil, false_implies, implies_true, Int.reduceNeg, Int.reduceToNat, Int.reducePow, Int.reduceMul, Int.reduceAdd, draw_i, ix_t0, ix_t1, ix_t2, ix_t3, ix_m3, ix_m4, sn_ball_box, sn_cell_box, sn_cell_ball, sn_ball_cell, sn_box_ball, sn_box_cell, decide_false, wPar, li6, li12, li13]
    have l8 := hn.2.1
    have hm5 := fm_pre hm hp h1 h2 h3
    have fmn := fun b hb => fm_new (b := b) hm hp h1 h2 h3 hb
    generalize setM (setM (setM (setM (setM M' p (.dic none [])) a1 (.lst [])) a2 (.lst [])) a3 (.lst [])) p (.dic none (kdF a1 a2 a3)) = M5 at hm5 fmn
    refine add_i (by simp; omega) (sl_to1 rfl (by omega) (add_i (by simp; omega) (sl_from1 rfl (by omega) (add_i (by simp; omega) (add_i (by simp; omega) ⟨by decide, ?_⟩)))))
    refine pick_i hm5 rfl (Nat.succ_pos _) (by show 3 ≤ 1000000; decide) fun d2 hd2 => ?_
    obtain ⟨ot, rfl, ho⟩ := other_of hn hd2
    refine ⟨by decide, fun b hb => ?_⟩
    have fm := fmn b hb
    generalize setM M5 b (.lst []) = M6 at fm
    subst hK3
    refine seq_gen fun K3 hK3 => ?_
    refine if_gen fun A hA => ?_
    simp (disch := first | assumption | decide) only [wSeq, wNext, wAsg, wgName, wIfS, wB, wOp, wVar, wC, wCall, wCallK, wCons, wNil, wRet, wRetN, wDrop, wTup, wLst, wIf, wAnd, wOr, wNot, wAndV, wOrV, wNotV, wNeg, wChain, fI, fI0, fLt, fLe, fGt, fGe, fIsB, wCB, fAbs, f2I, fInt, fIsq, wPar, wPar3, permD, startE, List.map_cons, List.map_nil, List.cons_append, List.nil_append, List.append_nil, List.length_cons, List.length_nil, List.replicate, List.getElem?_cons_zero, List.getElem?_cons_succ, List.set_cons_zero, List.set_cons_succ, List.getD_cons_zero, List.getD_cons_succ, Nat.reduceAdd, Nat.reduceSub, Nat.zero_add, true_and, and_true, Bool.not_true, Bool.not_false, if_true, if_false, Bool.false_eq_true, reduceIte, decide_eq_true_eq, Bool.not_eq_true', decide_eq_false_iff_not, eqV_int, eqV_str, eqV_bl, decide_true, reduceCtorEq, not_true_eq_false, not_false_eq_true, Bool.not_eq_true, List.not_mem_nil, false_implies, implies_true, Int.reduceNeg, Int.reduceToNat, Int.reducePow, Int.reduceMul, Int.reduceAdd, draw_i, ix_t0, ix_t1, ix_t2, ix_t3, ix_m3, ix_m4, sn_ball_box, sn_cell_box, sn_cell_ball, sn_ball_cell, sn_box_ball, sn_box_cell, decide_false, wOr]
    refine eq_tx ?_
    rw [decide_eq_false fun e => by have := ho.1; rw [e] at this; omega]
    simp only [Bool.false_eq_true, if_false]
    refine chk_name hn ?_
    simp only [fIsN, Bool.not_true, Bool.false_eq_true, if_false]
    refine chk_name hn ?_
    simp only [fIsN, Bool.not_true, Bool.false_eq_true, if_false]
    subst hA
    subst hK3
    refine seq_gen fun K3 hK3 => ?_
    refine for_gen fun B hB => ?_
    simp (disch := first | assumption | decide) only [wSeq, wNext, wAsg, wgName, wIfS, wB, wOp, wVar, wC, wCall, wCallK, wCons, wNil, wRet, wRetN, wDrop, wTup, wLst, wIf, wAnd, wOr, wNot, wAndV, wOrV, wNotV, wNeg, wChain, fI, fI0, addD, fLt, fLe, fGt, fGe, fIsB, wCB, fAbs, f2I, fInt, fIsq, wPar, wPar3, permD, startE, List.map_cons, List.map_nil, List.cons_append, List.nil_append, List.append_nil, List.length_cons, List.length_nil, List.replicate, List.getElem?_cons_zero, List.getElem?_cons_succ, List.set_cons_zero, List.set_cons_succ, List.getD_cons_zero, List.getD_cons_succ, Nat.reduceAdd, Nat.reduceSub, Nat.zero_add, true_and, and_true, Bool.not_true, Bool.not_false, if_true, if_false, Bool.false_eq_true, reduceIte, decide_eq_true_eq, Bool.not_eq_true', decide_eq_false_iff_not, eqV_int, eqV_str, eqV_bl, decide_true, reduceCtorEq, not_true_eq_false, not_false_eq_true, Bool.not_eq_true, List.not_mem_nil, false_implies, implies_true, Int.reduceNeg, Int.reduceToNat, Int.reducePow, Int.reduceMul, Int.reduceAdd, draw_i, ix_t0, ix_t1, ix_t2, ix_t3, ix_m3, ix_m4, sn_ball_box, sn_cell_box, sn_cell_ball, sn_ball_cell, sn_box_ball, sn_box_cell, decide_false, wFor, wiRange1]
    refine ⟨by decide, ?_⟩
    refine pick_i fm.ha rfl (by decide) (by decide) fun dn hdn => ?_
    obtain ⟨m, rfl, m12⟩ : ∃ m : Nat, dn = .int (m : Int) ∧ m ≤ 12 := by
      simp only [List.mem_cons, List.not_mem_nil, or_false] at hdn
      rcases hdn with rfl | rfl | rfl | rfl
      · exact ⟨6, rfl, by decide⟩
      · exact ⟨3, rfl, by decide⟩
      · exact ⟨12, rfl, by decide⟩
      · exact ⟨0, rfl, by decide⟩
    refine ⟨by omega, by omega, ?_⟩
    refine loop_ix (fun i ρ' M' => ∃ (nms : List (List Nat)) (ss ls : List Int) (ts : List (List Nat)), FM M' a a0 p b a1 a2 a3 nms ss ls ts ∧ InvF nm nms ss ls ts ∧ nms.length ≤ i ∧ ∃ v3 v12 v13 v14 : Option D, ρ' = [some (.lst (ns.map .int)), some (.tok a), some d, v3, v4, v5, v6, v7, some (tx nm), some (.tok p), some (tx ot), some (.tok b), v12, v13, v14, v15]) ?_ ?_ ⟨[], [], [], [], fm, inv_new nm, Nat.le_refl _, _, _, _, _, rfl⟩
    · rintro i2 d2 ρ2 M2 hi2 ⟨nms, ss, ls, ts, fm, iv, ln, v3, v12, v13, v14, rfl⟩
      refine ⟨True.intro, fun K4 hK4 => ?_⟩
      subst hB
      dsimp only [wgName, List.set_cons_succ, List.set_cons_zero]
      refine seq_gen fun K5 hK5 => ?_
      simp (disch := first | assumption | decide) only [wSeq, wNext, wAsg, wgName, wIfS, wB, wOp, wVar, wC, wCall, wCallK, wCons, wNil, wRet, wRetN, wDrop, wTup, wLst, wIf, wAnd, wOr, wNot, wAndV, wOrV, wNotV, wNeg, wChain, fI, fI0, addD, fLt, fLe, fGt, fGe, fIsB, wCB, fAbs, f2I, fInt, fIsq, wPar, wPar3, permD, startE, List.map_cons, List.map_nil, List.cons_append, List.nil_append, List.append_nil, List.length_cons, List.length_nil, List.replicate, List.getElem?_cons_zero, List.getElem?_cons_succ, List.set_cons_zero, List.set_cons_succ, List.getD_cons_zero, List.getD_cons_succ, Nat.reduceAdd, Nat.reduceSub, Nat.zero_add, true_and, and_true, Bool.not_true, Bool.not_false, if_true, if_false, Bool.false_eq_true, reduceIte, decide_eq_true_eq, Bool.not_eq_true', decide_eq_false_iff_not, eqV_int, eqV_str, eqV_bl, decide_true, reduceCtorEq, not_true_eq_false, not_false_eq_true, Bool.not_eq_true, List.not_mem_nil, false_implies, implies_true, Int.reduceNeg, Int.reduceToNat, Int.reducePow, Int.reduceMul, Int.reduceAdd, draw_i, ix_t0, ix_t1, ix_t2, ix_t3, ix_m3, ix_m4, sn_ball_box, sn_cell_box, sn_cell_ball, sn_ball_cell, sn_box_ball, sn_box_cell, decide_false]
      refine file_i fm.ha hn ho fun x kk dd hf => ?_
      dsimp only [wgTup, wgCons, wgNil, wgName, List.set_cons_succ, List.set_cons_zero]
      refine ⟨rfl, rfl, ?_⟩
      have l12 : i2 < 12 := by
        have z := (List.getElem?_eq_some_iff.mp hi2).1
        rw [intsD_len] at z
        omega
      subst hK5
      refine seq_gen fun K6 hK6 => ?_
      simp (disch := first | assumption | decide) only [wSeq, wNext, wAsg, wgName, wIfS, wB, wOp, wVar, wC, wCall, wCallK, wCons, wNil, wRet, wRetN, wDrop, wTup, wLst, wIf, wAnd, wOr, wNot, wAndV, wOrV, wNotV, wNeg, wChain, fI, fI0, addD, fLt, fLe, fGt, fGe, fIsB, wCB, fAbs, f2I, fInt, fIsq, wPar, wPar3, permD, startE, List.map_cons, List.map_nil, List.cons_append, List.nil_append, List.append_nil, List.length_cons, List.length_nil, List.replicate, List.getElem?_cons_zero, List.getElem?_cons_succ, List.set_cons_zero, List.set_cons_succ, List.getD_cons_zero, List.getD_cons_succ, Nat.reduceAdd, Nat.reduceSub, Nat.zero_add, true_and, and_true, Bool.not_true, Bool.not_false, if_true, if_false, Bool.false_eq_true, reduceIte, decide_eq_true_eq, Bool.not_eq_true', decide_eq_false_iff_not, eqV_int, eqV_str, eqV_bl, decide_true, reduceCtorEq, not_true_eq_false, not_false_eq_true, Bool.not_eq_true, List.not_mem_nil, false_implies, implies_true, Int.reduceNeg, Int.reduceToNat, Int.reducePow, Int.reduceMul, Int.reduceAdd, draw_i, ix_t0, ix_t1, ix_t2, ix_t3, ix_m3, ix_m4, sn_ball_box, sn_cell_box, sn_cell_ball, sn_ball_cell, sn_box_ball, sn_box_cell, decide_false]
      refine in_names fm.hb iv.ch hf.1.2 ?_
      refine ite_both (fun h => ?_) fun h => ?_
      · exact hK4 _ _ ⟨nms, ss, ls, ts, fm, iv, by omega, _, _, _, _, rfl⟩
      have hnx : x ∉ nms := by simpa using h
      subst hK6
      refine seq_gen fun K7 hK7 => ?_
      simp (disch := first | assumption | decide) only [wSeq, wNext, wAsg, wgName, wIfS, wB, wOp, wVar, wC, wCall, wCallK, wCons, wNil, wRet, wRetN, wDrop, wTup, wLst, wIf, wAnd, wOr, wNot, wAndV, wOrV, wNotV, wNeg, wChain, fI, fI0, addD, fLt, fLe, fGt, fGe, fIsB, wCB, fAbs, f2I, fInt, fIsq, wPar, wPar3, permD, startE, List.map_cons, List.map_nil, List.cons_append, List.nil_append, List.append_nil, List.length_cons, List.length_nil, List.replicate, List.getElem?_cons_zero, List.getElem?_cons_succ, List.set_cons_zero, List.set_cons_succ, List.getD_cons_zero, List.getD_cons_succ, Nat.reduceAdd, Nat.reduceSub, Nat.zero_add, true_and, and_true, Bool.not_true, Bool.not_false, if_true, if_false, Bool.false_eq_true, reduceIte, decide_eq_true_eq, Bool.not_eq_true', decide_eq_false_iff_not, eqV_int, eqV_str, eqV_bl, decide_true, reduceCtorEq, not_true_eq_false, not_false_eq_true, Bool.not_eq_true, List.not_mem_nil, false_implies, implies_true, Int.reduceNeg, Int.reduceToNat, Int.reducePow, Int.reduceMul, Int.reduceAdd, draw_i, ix_t0, ix_t1, ix_t2, ix_t3, ix_m3, ix_m4, sn_ball_box, sn_cell_box, sn_cell_ball, sn_ball_cell, sn_box_ball, sn_box_cell, decide_false]
      refine app_i (fun K hK => hK) fm.hb (by rw [List.length_map]; omega) rfl ?_
      rw [map_snoc]
      have fm := fm.putB (nms ++ [x])
      generalize setM M2 b (.lst ((nms ++ [x]).map tx)) = M3 at fm
      have chn := ch_add iv.ch hf.1
      have lnn : (nms ++ [x]).length ≤ i2 + 1 := by rw [List.length_append]; simp; omega
      subst hK7
      refine ifk rfl ?_
      obtain ⟨hch, ⟨rfl, n, rfl, e, e1, e2, e3⟩ | ⟨rfl, n, rfl, e, e1, e2, e3⟩ | ⟨rfl, rfl, e1, e2, e3⟩ | ⟨rfl, e1, e2, e3⟩⟩ := hf
      · rw [if_neg (by decide)]
        have l1 := iv.s.ln
        refine app_i (i := 14) (fun K hK => dget_i (v := .tok a1) fm.hp rfl hK) fm.h1 (by rw [List.length_map]; omega) rfl ?_
        rw [map_snoc]
        exact hK4 _ _ ⟨_, _, _, _, fm.put1 (ss ++ [(n : Int)]), ⟨iv.s.add hnx e e1, iv.l.same e2, iv.t.same e3, chn⟩, lnn, _, _, _, _, rfl⟩
      · rw [if_neg (by decide)]
        have l1 := iv.l.ln
        refine app_i (i := 14) (fun K hK => dget_i (v := .tok a2) fm.hp rfl hK) fm.h2 (by rw [List.length_map]; omega) rfl ?_
        rw [map_snoc]
        exact hK4 _ _ ⟨_, _, _, _, fm.put2 (ls ++ [(n : Int)]), ⟨iv.s.same e2, iv.l.add hnx e e1, iv.t.same e3, chn⟩, lnn, _, _, _, _, rfl⟩
      · rw [if_neg (by decide)]
        have l1 := iv.t.ln
        refine app_i (i := 14) (fun K hK => dget_i (v := .tok a3) fm.hp rfl hK) fm.h3 (by rw [List.length_map]; omega) rfl ?_
        rw [map_snoc]
        exact hK4 _ _ ⟨_, _, _, _, fm.put3 (ts ++ [x]), ⟨iv.s.same e1, iv.l.same e2, iv.t.add hnx e3, chn⟩, lnn, _, _, _, _, rfl⟩
      · rw [if_pos (by decide)]
        exact hK4 _ _ ⟨_, _, _, _, fm, ⟨iv.s.same e1, iv.l.same e2, iv.t.same e3, chn⟩, lnn, _, _, _, _, rfl⟩
    · rintro ρ2 M2 ⟨nms, ss, ls, ts, fm, iv, ln, v3, v12, v13, v14, rfl⟩
      refine ⟨True.intro, ?_⟩
      show K3 _ _
      have n12 : nms.length ≤ 12 := by
        rw [intsD_len] at ln
        omega
      have chT : ∀ x ∈ ts, x.length ≤ 40 ∧ ∀ c ∈ x, c < 1000 := fun x hx => iv.ch x ((iv.t.me x).mp hx).1
      have s1 := srt_ints ss iv.s.nd
      have s2 := srt_ints ls iv.l.nd
      have s3 := srt_txts ts iv.t.nd
      have q1 : (ss.mergeSort fun a b => decide (a ≤ b)).length ≤ 20 := by rw [List.length_mergeSort]; have := iv.s.ln; omega
      have q2 : (ls.mergeSort fun a b => decide (a ≤ b)).length ≤ 20 := by rw [List.length_mergeSort]; have := iv.l.ln; omega
      have q3 : (ts.mergeSort fun a b => decide (a ≤ b)).length ≤ 20 := by rw [List.length_mergeSort]; have := iv.t.ln; omega
      subst hK3
      refine seq_gen fun K3 hK3 => ?_
      simp (disch := first | assumption | decide) only [wSeq, wNext, wAsg, wgName, wIfS, wB, wOp, wVar, wC, wCall, wCallK, wCons, wNil, wRet, wRetN, wDrop, wTup, wLst, wIf, wAnd, wOr, wNot, wAndV, wOrV, wNotV, wNeg, wChain, fI, fI0, addD, fLt, fLe, fGt, fGe, fIsB, wCB, fAbs, f2I, fInt, fIsq, wPar, wPar3, permD, startE, List.map_cons, List.map_nil, List.cons_append, List.nil_append, List.append_nil, List.length_cons, List.length_nil, List.replicate, List.getElem?_cons_zero, List.getElem?_cons_succ, List.set_cons_zero, List.set_cons_succ, List.getD_cons_zero, List.getD_cons_succ, Nat.reduceAdd, Nat.reduceSub, Nat.zero_add, true_and, and_true, Bool.not_true, Bool.not_false, if_true, if_false, Bool.false_eq_true, reduceIte, decide_eq_true_eq, Bool.not_eq_true', decide_eq_false_iff_not, eqV_int, eqV_str, eqV_bl, decide_true, reduceCtorEq, not_true_eq_false, not_false_eq_true, Bool.not_eq_true, List.not_mem_nil, false_implies, implies_true, Int.reduceNeg, Int.reduceToNat, Int.reducePow, Int.reduceMul, Int.reduceAdd, draw_i, ix_t0, ix_t1, ix_t2, ix_t3, ix_m3, ix_m4, sn_ball_box, sn_cell_box, sn_cell_ball, sn_ball_cell, sn_box_ball, sn_box_cell, decide_false, fTuple, wDGet]
      refine dget_i (v := .tok a1) fm.hp rfl ?_
      refine srt_ns fm.h1 ⟨_, rfl, ?_⟩
      refine dget_i (v := .tok a2) fm.hp rfl ?_
      refine srt_ns fm.h2 ⟨_, rfl, ?_⟩
      refine dget_i (v := .tok a3) fm.hp rfl ?_
      refine srt_ts fm.h3 (fun x hx => (chT x hx).2) ⟨_, rfl, ?_⟩
      generalize (ss.mergeSort fun a b => decide (a ≤ b)) = zs at s1 q1
      generalize (ls.mergeSort fun a b => decide (a ≤ b)) = zl at s2 q2
      generalize (ts.mergeSort fun a b => decide (a ≤ b)) = zt at s3 q3
      refine ⟨by decide, ?_⟩
      subst hK3
      refine seq_gen fun K3 hK3 => ?_
      refine if_gen fun A hA => ?_
      have lx : ∀ x ∈ nms, x.length ≤ 90 := fun x hx => by have := (iv.ch x hx).1; omega
      have seqN : seqD M2 (.tok b) = some (nms.map tx) := by
        show (match M2 b with | some (.lst ds) => some ds | _ => none) = _
        rw [fm.hb]
      have chZ : ∀ x ∈ zt, x.length ≤ 40 ∧ ∀ c ∈ x, c < 1000 := fun x hx => chT x ((s3.2 x).mp hx)
      have bd : ∀ {st : List Nat} {l z : List Int}, NumI st nms l → inNs z l → ∀ i ∈ z, i.natAbs < 2 ^ 200 := fun {st l z} h1 h2 i hi => by
        obtain ⟨k, e, hk⟩ := h1.ca i ((h2.2 i).mp hi)
        have hl := (iv.ch _ hk).1
        rw [List.length_append] at hl
        have := numL_big k (by omega : (TL.numL k).length ≤ 40)
        rw [e, Int.natAbs_natCast]
        exact this
      have sh := tr_shw zs zl chZ (bd iv.s s1) (bd iv.l s2) q1 q2 q3
      simp (disch := first | assumption | decide) only [wSeq, wNext, wAsg, wgName, wIfS, wB, wOp, wVar, wC, wCall, wCallK, wCons, wNil, wRet, wRetN, wDrop, wTup, wLst, wIf, wAnd, wOr, wNot, wAndV, wOrV, wNotV, wNeg, wChain, fI, fI0, fLt, fLe, fGt, fGe, fIsB, wCB, fAbs, f2I, fInt, fIsq, wPar, wPar3, permD, startE, List.map_cons, List.map_nil, List.cons_append, List.nil_append, List.append_nil, List.length_cons, List.length_nil, List.replicate, List.getElem?_cons_zero, List.getElem?_cons_succ, List.set_cons_zero, List.set_cons_succ, List.getD_cons_zero, List.getD_cons_succ, Nat.reduceAdd, Nat.reduceSub, Nat.zero_add, true_and, and_true, Bool.not_true, Bool.not_false, if_true, if_false, Bool.false_eq_true, reduceIte, decide_eq_true_eq, Bool.not_eq_true', decide_eq_false_iff_not, eqV_int, eqV_str, eqV_bl, decide_true, reduceCtorEq, not_true_eq_false, not_false_eq_true, Bool.not_eq_true, List.not_mem_nil, false_implies, implies_true, Int.reduceNeg, Int.reduceToNat, Int.reducePow, Int.reduceMul, Int.reduceAdd, draw_i, ix_t0, ix_t1, ix_t2, ix_t3, ix_m3, ix_m4, sn_ball_box, sn_cell_box, sn_cell_ball, sn_ball_cell, sn_box_ball, sn_box_cell, decide_false, wOr, fTuple]
      refine ⟨_, seqN, ?_⟩
      refine files_i (by omega) lx (by omega) fun y1 y2 y3 e1 e2 e3 => ?_
      have r1 : y1 = zs := inNs_one e1 s1 fun k => (List.mem_filterMap.trans (iv.s.me k).symm)
      have r2 : y2 = zl := inNs_one e2 s2 fun k => (List.mem_filterMap.trans (iv.l.me k).symm)
      have r3 : y3 = zt := inTs_one e3 s3 fun k => (List.mem_filter.trans (iv.t.me k).symm)
      rw [r1, r2, r3]
      show fRepr [trD zs zl zt] M2 _
      refine repr_tr sh ?_
      show fRepr [trD zs zl zt] M2 _
      refine repr_tr sh ?_
      refine eqV_str.mpr ?_
      have et : decide (shown (trD zs zl zt) = shown (trD zs zl zt)) = true := decide_eq_true rfl
      rw [if_pos rfl, et]
      generalize shown (trD zs zl zt) = sw
      simp only [Bool.not_true, Bool.false_eq_true, if_false]
      refine ⟨nms.map tx, ⟨b, .inl rfl⟩, seqN, (nms.map tx).reverse, rfl, ?_⟩
      rw [← List.map_reverse]
      refine files_i (xs := nms.reverse) (by rw [List.length_reverse]; omega) (fun x hx => lx x (List.mem_reverse.mp hx)) (by omega) fun y1 y2 y3 e1 e2 e3 => ?_
      have r1 : y1 = zs := inNs_one e1 s1 fun k => by
        refine Iff.trans ?_ (iv.s.me k).symm
        simp
      have r2 : y2 = zl := inNs_one e2 s2 fun k => by
        refine Iff.trans ?_ (iv.l.me k).symm
        simp
      have r3 : y3 = zt := inTs_one e3 s3 fun k => by
        refine Iff.trans ?_ (iv.t.me k).symm
        simp
      rw [r1, r2, r3]
      refine eq_tr (fun x hx => (chZ x hx).2) ?_
      simp only [Bool.not_true, Bool.false_eq_true, if_false]
      subst hA
      subst hK3
      refine seq_gen fun K3 hK3 => ?_
      simp (disch := first | assumption | decide) only [wSeq, wNext, wAsg, wgName, wIfS, wB, wOp, wVar, wC, wCall, wCallK, wCons, wNil, wRet, wRetN, wDrop, wTup, wLst, wIf, wAnd, wOr, wNot, wAndV, wOrV, wNotV, wNeg, wChain, fI, fI0, addD, fLt, fLe, fGt, fGe, fIsB, wCB, fAbs, f2I, fInt, fIsq, wPar, wPar3, permD, startE, List.map_cons, List.map_nil, List.cons_append, List.nil_append, List.append_nil, List.length_cons, List.length_nil, List.replicate, List.getElem?_cons_zero, List.getElem?_cons_succ, List.set_cons_zero, List.set_cons_succ, List.getD_cons_zero, List.getD_cons_succ, Nat.reduceAdd, Nat.reduceSub, Nat.zero_add, true_and, and_true, Bool.not_true, Bool.not_false, if_true, if_false, Bool.false_eq_true, reduceIte, decide_eq_true_eq, Bool.not_eq_true', decide_eq_false_iff_not, eqV_int, eqV_str, eqV_bl, decide_true, reduceCtorEq, not_true_eq_false, not_false_eq_true, Bool.not_eq_true, List.not_mem_nil, false_implies, implies_true, Int.reduceNeg, Int.reduceToNat, Int.reducePow, Int.reduceMul, Int.reduceAdd, draw_i, ix_t0, ix_t1, ix_t2, ix_t3, ix_m3, ix_m4, sn_ball_box, sn_cell_box, sn_cell_ball, sn_ball_cell, sn_box_ball, sn_box_cell, decide_false]
      refine number_i fm.ha fun n n9 => ?_
      subst hK3
      refine seq_gen fun K3 hK3 => ?_
      refine if_gen fun A hA => ?_
      simp (disch := first | assumption | decide) only [wSeq, wNext, wAsg, wgName, wIfS, wB, wOp, wVar, wC, wCall, wCallK, wCons, wNil, wRet, wRetN, wDrop, wTup, wLst, wIf, wAnd, wOr, wNot, wAndV, wOrV, wNotV, wNeg, wChain, fI, fI0, fLt, fLe, fGt, fGe, fIsB, wCB, fAbs, f2I, fInt, fIsq, wPar, wPar3, permD, startE, List.map_cons, List.map_nil, List.cons_append, List.nil_append, List.append_nil, List.length_cons, List.length_nil, List.replicate, List.getElem?_cons_zero, List.getElem?_cons_succ, List.set_cons_zero, List.set_cons_succ, List.getD_cons_zero, List.getD_cons_succ, Nat.reduceAdd, Nat.reduceSub, Nat.zero_add, true_and, and_true, Bool.not_true, Bool.not_false, if_true, if_false, Bool.false_eq_true, reduceIte, decide_eq_true_eq, Bool.not_eq_true', decide_eq_false_iff_not, eqV_int, eqV_str, eqV_bl, decide_true, reduceCtorEq, not_true_eq_false, not_false_eq_true, Bool.not_eq_true, List.not_mem_nil, false_implies, implies_true, Int.reduceNeg, Int.reduceToNat, Int.reducePow, Int.reduceMul, Int.reduceAdd, draw_i, ix_t0, ix_t1, ix_t2, ix_t3, ix_m3, ix_m4, sn_ball_box, sn_cell_box, sn_cell_ball, sn_ball_cell, sn_box_ball, sn_box_cell, decide_false, wOr, li14, li15]
      have l6 := numL_le n9
      refine log_i (by omega) n9 ?_
      refine add_i (by simp; omega) (strI_i n9 (add_i (by simp; omega) ?_))
      refine eq_txn (by unfold stL; rfl) ?_
      simp only [Bool.false_eq_true, if_false]
      refine snap_i (by omega) n9 ?_
      refine add_i (by simp; omega) (strI_i n9 (add_i (by simp; omega) ?_))
      refine eq_txn (by unfold stS; rfl) ?_
      simp only [Bool.false_eq_true, if_false]
      subst hA
      subst hK3
      refine seq_gen fun K3 hK3 => ?_
      simp (disch := first | assumption | decide) only [wSeq, wNext, wAsg, wgName, wIfS, wB, wOp, wVar, wC, wCall, wCallK, wCons, wNil, wRet, wRetN, wDrop, wTup, wLst, wIf, wAnd, wOr, wNot, wAndV, wOrV, wNotV, wNeg, wChain, fI, fI0, addD, fLt, fLe, fGt, fGe, fIsB, wCB, fAbs, f2I, fInt, fIsq, wPar, wPar3, permD, startE, List.map_cons, List.map_nil, List.cons_append, List.nil_append, List.append_nil, List.length_cons, List.length_nil, List.replicate, List.getElem?_cons_zero, List.getElem?_cons_succ, List.set_cons_zero, List.set_cons_succ, List.getD_cons_zero, List.getD_cons_succ, Nat.reduceAdd, Nat.reduceSub, Nat.zero_add, true_and, and_true, Bool.not_true, Bool.not_false, if_true, if_false, Bool.false_eq_true, reduceIte, decide_eq_true_eq, Bool.not_eq_true', decide_eq_false_iff_not, eqV_int, eqV_str, eqV_bl, decide_true, reduceCtorEq, not_true_eq_false, not_false_eq_true, Bool.not_eq_true, List.not_mem_nil, false_implies, implies_true, Int.reduceNeg, Int.reduceToNat, Int.reducePow, Int.reduceMul, Int.reduceAdd, draw_i, ix_t0, ix_t1, ix_t2, ix_t3, ix_m3, ix_m4, sn_ball_box, sn_cell_box, sn_cell_ball, sn_ball_cell, sn_box_ball, sn_box_cell, decide_false]
      refine ⟨sm_tx (by omega), ?_⟩
      rw [len_S]
      refine (draw_i fm.ha (by omega) ?_).mpr fun kk k0 k1 => ?_
      · have e : ((nm.length : Int) + 1).natAbs = nm.length + 1 := by omega
        rw [e]
        exact Nat.lt_of_le_of_lt (Nat.log2_le_self _) (by omega)
      obtain ⟨ck, rfl⟩ := Int.eq_ofNat_of_zero_le k0
      subst hK3
      refine seq_gen fun K3 hK3 => ?_
      simp (disch := first | assumption | decide) only [wSeq, wNext, wAsg, wgName, wIfS, wB, wOp, wVar, wC, wCall, wCallK, wCons, wNil, wRet, wRetN, wDrop, wTup, wLst, wIf, wAnd, wOr, wNot, wAndV, wOrV, wNotV, wNeg, wChain, fI, fI0, fLt, fLe, fGt, fGe, fIsB, wCB, fAbs, f2I, fInt, fIsq, wPar, wPar3, permD, startE, List.map_cons, List.map_nil, List.cons_append, List.nil_append, List.append_nil, List.length_cons, List.length_nil, List.replicate, List.getElem?_cons_zero, List.getElem?_cons_succ, List.set_cons_zero, List.set_cons_succ, List.getD_cons_zero, List.getD_cons_succ, Nat.reduceAdd, Nat.reduceSub, Nat.zero_add, true_and, and_true, Bool.not_true, Bool.not_false, if_true, if_false, Bool.false_eq_true, reduceIte, decide_eq_true_eq, Bool.not_eq_true', decide_eq_false_iff_not, eqV_int, eqV_str, eqV_bl, decide_true, reduceCtorEq, not_true_eq_false, not_false_eq_true, Bool.not_eq_true, List.not_mem_nil, false_implies, implies_true, Int.reduceNeg, Int.reduceToNat, Int.reducePow, Int.reduceMul, Int.reduceAdd, draw_i, ix_t0, ix_t1, ix_t2, ix_t3, ix_m3, ix_m4, sn_ball_box, sn_cell_box, sn_cell_ball, sn_ball_cell, sn_box_ball, sn_box_cell, decide_false, li16, li17]
      refine sl_to rfl rfl (by omega) ?_
      refine ⟨by decide, ?_⟩
      refine pick_i fm.ha rfl (by decide) (by decide) fun dc hdc => ?_
      obtain ⟨c, rfl, hc⟩ : ∃ c : Nat, dc = tx [c] ∧ c ∉ AL := by
        rw [AL_eq]
        simp only [List.mem_cons, List.not_mem_nil, or_false] at hdc
        rcases hdc with rfl | rfl | rfl | rfl | rfl
        · exact ⟨46, rfl, by decide⟩
        · exact ⟨65, rfl, by decide⟩
        · exact ⟨45, rfl, by decide⟩
        · exact ⟨32, rfl, by decide⟩
        · exact ⟨95, rfl, by decide⟩
      refine add_i (by simp; omega) (sl_from rfl rfl (by omega) (add_i (by simp; omega) (add_i (by simp; omega) ?_)))
      refine ⟨by decide, by decide, by decide, ?_⟩
      have ew : [tx (nm.take ck ++ [c] ++ nm.drop ck), tx [], tx (nm ++ [97, 98, 99, 100, 101, 102, 103, 104]), D.non, D.int 7, D.lst [tx nm], D.tup [tx nm], D.bl true] = (wrongL nm ck c).map fun d => d := (List.map_id' _).symm
      rw [ew]
      subst hK3
      refine if_gen fun A hA => ?_
      simp (disch := first | assumption | decide) only [wSeq, wNext, wAsg, wgName, wIfS, wB, wOp, wVar, wC, wCall, wCallK, wCons, wNil, wRet, wRetN, wDrop, wTup, wLst, wIf, wAnd, wOr, wNot, wAndV, wOrV, wNotV, wNeg, wChain, fI, fI0, addD, fLt, fLe, fGt, fGe, fIsB, wCB, fAbs, f2I, fInt, fIsq, wPar, wPar3, permD, startE, List.map_cons, List.map_nil, List.cons_append, List.nil_append, List.append_nil, List.length_cons, List.length_nil, List.replicate, List.getElem?_cons_zero, List.getElem?_cons_succ, List.set_cons_zero, List.set_cons_succ, List.getD_cons_zero, List.getD_cons_succ, Nat.reduceAdd, Nat.reduceSub, Nat.zero_add, true_and, and_true, Bool.not_true, Bool.not_false, if_true, if_false, Bool.false_eq_true, reduceIte, decide_eq_true_eq, Bool.not_eq_true', decide_eq_false_iff_not, eqV_int, eqV_str, eqV_bl, decide_true, reduceCtorEq, not_true_eq_false, not_false_eq_true, Bool.not_eq_true, List.not_mem_nil, false_implies, implies_true, Int.reduceNeg, Int.reduceToNat, Int.reducePow, Int.reduceMul, Int.reduceAdd, draw_i, ix_t0, ix_t1, ix_t2, ix_t3, ix_m3, ix_m4, sn_ball_box, sn_cell_box, sn_cell_ball, sn_ball_cell, sn_box_ball, sn_box_cell, decide_false, wLc, wiSeq, wipeE]
      refine lc_mapU (fun d => d) (fun _ => .bl true) (wrongL nm ck c) [] M2 (fun _ _ => True.intro) (by show 0 + 8 ≤ 1000000; decide) (fun x hx M3 u3 K4 hK4 => ?_) fun M3 u3 => ?_
      · simp (disch := first | assumption | decide) only [wSeq, wNext, wAsg, wgName, wIfS, wB, wOp, wVar, wC, wCall, wCallK, wCons, wNil, wRet, wRetN, wDrop, wTup, wLst, wIf, wAnd, wOr, wNot, wAndV, wOrV, wNotV, wNeg, wChain, fI, fI0, addD, fLt, fLe, fGt, fGe, fIsB, wCB, fAbs, f2I, fInt, fIsq, wPar, wPar3, permD, startE, List.map_cons, List.map_nil, List.cons_append, List.nil_append, List.append_nil, List.length_cons, List.length_nil, List.replicate, List.getElem?_cons_zero, List.getElem?_cons_succ, List.set_cons_zero, List.set_cons_succ, List.getD_cons_zero, List.getD_cons_succ, Nat.reduceAdd, Nat.reduceSub, Nat.zero_add, true_and, and_true, Bool.not_true, Bool.not_false, if_true, if_false, Bool.false_eq_true, reduceIte, decide_eq_true_eq, Bool.not_eq_true', decide_eq_false_iff_not, eqV_int, eqV_str, eqV_bl, decide_true, reduceCtorEq, not_true_eq_false, not_false_eq_true, Bool.not_eq_true, List.not_mem_nil, false_implies, implies_true, Int.reduceNeg, Int.reduceToNat, Int.reducePow, Int.reduceMul, Int.reduceAdd, draw_i, ix_t0, ix_t1, ix_t2, ix_t3, ix_m3, ix_m4, sn_ball_box, sn_cell_box, sn_cell_ball, sn_ball_cell, sn_box_ball, sn_box_cell, decide_false]
        obtain ⟨w1, w2⟩ := wrong_no hn hc M3 x hx
        exact refused_i w1 w2 hK4
      rw [List.nil_append]
      refine ⟨(wrongL nm ck c).map fun _ => true, ⟨0, .inr (by rw [List.map_map]; rfl)⟩, by rw [List.map_map]; rfl, ?_⟩
      have eb : (((wrongL nm ck c).map fun _ => true).all id) = true := rfl
      dsimp only
      rw [eb, if_neg (by decide)]
      exact hK2 _ _ ⟨u3 _ _ fm.ha, _, _, _, _, _, _, _, _, _, _, _, _, _, _, rfl⟩
  · rintro ρ' M' ⟨hm, v2, v3, v4, v5, v6, v7, v8, v9, v10, v11, v12, v13, v14, v15, rfl⟩
    refine ⟨True.intro, ?_⟩
    show K _ _
    subst hK
    have one : ∀ z : List Int, inNs z [] → z = [] := fun z h => List.eq_nil_iff_forall_not_mem.mpr fun k hk => by
      have := (h.2 k).mp hk
      cases this
    have oneT : ∀ z : List (List Nat), inTs z [] → z = [] := fun z h => List.eq_nil_iff_forall_not_mem.mpr fun k hk => by
      have := (h.2 k).mp hk
      cases this
    simp (disch := first | assumption | decide) only [wSeq, wNext, wAsg, wgName, wIfS, wB, wOp, wVar, wC, wCall, wCallK, wCons, wNil, wRet, wRetN, wDrop, wTup, wLst, wIf, wAnd, wOr, wNot, wAndV, wOrV, wNotV, wNeg, wChain, fI, fI0, addD, fLt, fLe, fGt, fGe, fIsB, wCB, fAbs, f2I, fInt, fIsq, wPar, wPar3, permD, startE, List.map_cons, List.map_nil, List.cons_append, List.nil_append, List.append_nil, List.length_cons, List.length_nil, List.replicate, List.getElem?_cons_zero, List.getElem?_cons_succ, List.set_cons_zero, List.set_cons_succ, List.getD_cons_zero, List.getD_cons_succ, Nat.reduceAdd, Nat.reduceSub, Nat.zero_add, true_and, and_true, Bool.not_true, Bool.not_false, if_true, if_false, Bool.false_eq_true, reduceIte, decide_eq_true_eq, Bool.not_eq_true', decide_eq_false_iff_not, eqV_int, eqV_str, eqV_bl, decide_true, reduceCtorEq, not_true_eq_false, not_false_eq_true, Bool.not_eq_true, List.not_mem_nil, false_implies, implies_true, Int.reduceNeg, Int.reduceToNat, Int.reducePow, Int.reduceMul, Int.reduceAdd, draw_i, ix_t0, ix_t1, ix_t2, ix_t3, ix_m3, ix_m4, sn_ball_box, sn_cell_box, sn_cell_ball, sn_ball_cell, sn_box_ball, sn_box_cell, decide_false]
    refine ⟨by decide, ?_⟩
    refine files_i (xs := []) (nm := [97]) (by decide) (fun x hx => by cases hx) (by decide) fun z1 z2 z3 h1 h2 h3 => ?_
    rw [one z1 h1, one z2 h2, oneT z3 h3]
    refine ⟨by decide, by decide, by decide, by decide, ?_⟩
    refine eq_tr (z1 := []) (z2 := []) (z3 := []) (fun x hx => by cases hx) ?_
    refine ⟨by decide, ?_⟩
    refine files_i (xs := [[97, 46, 108, 48], [97, 46, 115, 48], [97, 46, 108, 48, 48], [97, 46, 115, 51, 46, 110, 101, 119]]) (nm := [97]) (by decide) (by decide) (by decide) fun z1 z2 z3 h1 h2 h3 => ?_
    have k1 : inNs [0] [0] := ⟨by simp, fun k => Iff.rfl⟩
    have k3 : inTs [[97, 46, 115, 51, 46, 110, 101, 119]] [[97, 46, 115, 51, 46, 110, 101, 119]] := ⟨by simp, fun k => Iff.rfl⟩
    rw [inNs_one h1 k1 fun k => by rw [show ([[97, 46, 108, 48], [97, 46, 115, 48], [97, 46, 108, 48, 48], [97, 46, 115, 51, 46, 110, 101, 119]] : List (List Nat)).filterMap (fun x => nbO x (stS [97])) = [0] by decide +kernel]]
    rw [inNs_one h2 k1 fun k => by rw [show ([[97, 46, 108, 48], [97, 46, 115, 48], [97, 46, 108, 48, 48], [97, 46, 115, 51, 46, 110, 101, 119]] : List (List Nat)).filterMap (fun x => nbO x (stL [97])) = [0] by decide +kernel]]
    rw [inTs_one h3 k3 fun k => by rw [show ([[97, 46, 108, 48], [97, 46, 115, 48], [97, 46, 108, 48, 48], [97, 46, 115, 51, 46, 110, 101, 119]] : List (List Nat)).filter (nwB [97]) = [[97, 46, 115, 51, 46, 110, 101, 119]] by decide +kernel]]
    refine ⟨by decide, by decide, by decide, by decide, ?_⟩
    exact eq_tr (z1 := [0]) (z2 := [0]) (z3 := [[97, 46, 115, 51, 46, 110, 101, 119]]) (by decide) (q M')
end K58
namespace K58
open PySem L2 L3
theorem len_is_word_of : ∀ ds M Q E, F_is_word_of ds M Q E → ds.length = 3 := by
  rintro ds M Q E ⟨_, _, _, rfl, _⟩
  rfl
theorem len_is_numeral : ∀ ds M Q E, F_is_numeral ds M Q E → ds.length = 2 := by
  rintro ds M Q E ⟨_, rfl, _⟩
  rfl
theorem len_lot_of : ∀ ds M Q E, F_lot_of ds M Q E → ds.length = 1 := by
  rintro ds M Q E ⟨_, rfl, _⟩
  rfl
theorem len_check_shard_name : ∀ ds M Q E, F_check_shard_name ds M Q E → ds.length = 1 := by
  rintro ds M Q E ⟨_, rfl, _⟩
  rfl
theorem len_log_file : ∀ ds M Q E, F_log_file ds M Q E → ds.length = 2 := by
  rintro ds M Q E ⟨_, _, rfl, _⟩
  rfl
theorem len_snapshot_file : ∀ ds M Q E, F_snapshot_file ds M Q E → ds.length = 2 := by
  rintro ds M Q E ⟨_, _, rfl, _⟩
  rfl
theorem len_number_behind : ∀ ds M Q E, F_number_behind ds M Q E → ds.length = 2 := by
  rintro ds M Q E ⟨_, _, rfl, _⟩
  rfl
theorem len_numbers_behind : ∀ ds M Q E, F_numbers_behind ds M Q E → ds.length = 2 := by
  rintro ds M Q E ⟨_, _, rfl, _⟩
  rfl
theorem len_shard_files : ∀ ds M Q E, F_shard_files ds M Q E → ds.length = 2 := by
  rintro ds M Q E ⟨_, _, rfl, _⟩
  rfl
theorem len__law_heap : ∀ ds M Q E, F__law_heap ds M Q E → ds.length = 1 := by
  rintro ds M Q E ⟨_, rfl, _⟩
  rfl
theorem len__law_pick : ∀ ds M Q E, pickF ds M Q E → ds.length = 2 := by
  rintro ds M Q E ⟨_, _, _, _, rfl, _⟩
  rfl
theorem len__law_name : ∀ ds M Q E, F__law_name ds M Q E → ds.length = 1 := by
  rintro ds M Q E ⟨_, _, rfl, _⟩
  rfl
theorem len__law_number : ∀ ds M Q E, F__law_number ds M Q E → ds.length = 1 := by
  rintro ds M Q E ⟨_, _, rfl, _⟩
  rfl
theorem len__law_is_refused : ∀ ds M Q E, F__law_is_refused ds M Q E → ds.length = 1 := by
  rintro ds M Q E ⟨_, rfl, _⟩
  rfl
theorem len__law_file : ∀ ds M Q E, F__law_file ds M Q E → ds.length = 3 := by
  rintro ds M Q E ⟨_, _, _, _, rfl, _⟩
  rfl
theorem len_law : ∀ ds M Q E, F_law ds M Q E → ds.length = 1 := by
  rintro ds M Q E ⟨_, rfl, _⟩
  rfl
/-! ### all together -/
theorem all_mk {l : PySem.W.OpenLaw} (hl : l.prog = PySem.Challenge.pw_nonearer_k58_files_of_a_shard) {w : World} {K : PySem.W.Frag} {h : Heap} {mg : Str → Option Value} {fa : Addr} (X : K.In h) (G : h.Ns mainGlobals mg) (hfa : mg "law" = some (.ref fa))
    {f0 : Addr} {od0 an0 : Option Addr} {sl0 : Array (Option Value)} {oc0 kV0 dc0 pm0 cd0 ct0 : Value}
    {f1 : Addr} {od1 an1 : Option Addr} {sl1 : Array (Option Value)} {oc1 kV1 dc1 pm1 cd1 ct1 : Value}
    {f2 : Addr} {od2 an2 : Option Addr} {sl2 : Array (Option Value)} {oc2 kV2 dc2 pm2 cd2 ct2 : Value}
    {f3 : Addr} {od3 an3 : Option Addr} {sl3 : Array (Option Value)} {oc3 kV3 dc3 pm3 cd3 ct3 : Value}
    {f4 : Addr} {od4 an4 : Option Addr} {sl4 : Array (Option Value)} {oc4 kV4 dc4 pm4 cd4 ct4 : Value}
    {f5 : Addr} {od5 an5 : Option Addr} {sl5 : Array (Option Value)} {oc5 kV5 dc5 pm5 cd5 ct5 : Value}
    {f6 : Addr} {od6 an6 : Option Addr} {sl6 : Array (Option Value)} {oc6 kV6 dc6 pm6 cd6 ct6 : Value}
    {f7 : Addr} {od7 an7 : Option Addr} {sl7 : Array (Option Value)} {oc7 kV7 dc7 pm7 cd7 ct7 : Value}
    {f8 : Addr} {od8 an8 : Option Addr} {sl8 : Array (Option Value)} {oc8 kV8 dc8 pm8 cd8 ct8 : Value}
    {f9 : Addr} {od9 an9 : Option Addr} {sl9 : Array (Option Value)} {oc9 kV9 dc9 pm9 cd9 ct9 : Value}
    {f10 : Addr} {od10 an10 : Option Addr} {sl10 : Array (Option Value)} {oc10 kV10 dc10 pm10 cd10 ct10 : Value}
    {f11 : Addr} {od11 an11 : Option Addr} {sl11 : Array (Option Value)} {oc11 kV11 dc11 pm11 cd11 ct11 : Value}
    {f12 : Addr} {od12 an12 : Option Addr} {sl12 : Array (Option Value)} {oc12 kV12 dc12 pm12 cd12 ct12 : Value}
    {f13 : Addr} {od13 an13 : Option Addr} {sl13 : Array (Option Value)} {oc13 kV13 dc13 pm13 cd13 ct13 : Value}
    {f14 : Addr} {od14 an14 : Option Addr} {sl14 : Array (Option Value)} {oc14 kV14 dc14 pm14 cd14 ct14 : Value}
    {f15 : Addr} {od15 an15 : Option Addr} {sl15 : Array (Option Value)} {oc15 kV15 dc15 pm15 cd15 ct15 : Value}
    {f16 : Addr} {od16 an16 : Option Addr} {sl16 : Array (Option Value)} {oc16 kV16 dc16 pm16 cd16 ct16 : Value}
    {c_StoreError : Addr} {nm_StoreError q_StoreError : Str} {N_StoreError : Addr} {bs_StoreError : List Value} {sn_StoreError : List Str} {sub_StoreError : List Value} {ab_StoreError : Bool} {col_StoreError : Option Bool} {dd_StoreError : Option Addr} {m0_StoreError m1_StoreError m2_StoreError m3_StoreError m5_StoreError : Option Value}
    {c_Refused : Addr} {nm_Refused q_Refused : Str} {N_Refused : Addr} {bs_Refused : List Value} {sn_Refused : List Str} {sub_Refused : List Value} {ab_Refused : Bool} {col_Refused : Option Bool} {dd_Refused : Option Addr} {m0_Refused m1_Refused m2_Refused m3_Refused m5_Refused : Option Value}
    {f_Refused : Addr} {of_Refused af_Refused : Option Addr} {sf_Refused : Array (Option Value)} {o1_Refused kf_Refused d1_Refused p1_Refused cdf_Refused ct_Refused : Value}
    {tDIGITS : Tok}
    {tLETTERS : Tok}
    {tLONGEST_SHARD_NAME : Tok}
    {tMOST_DIGITS : Tok}
    {tNEW : Tok}
    (a0 : PySem.W.nsIn K mainGlobals "is_word_of" = some (some (.ref f0))) (l0 : K.lookup f0 = some ⟨oc0, od0, .func (PySem.W.fnOf "is_word_of" "is_word_of" (defArgs s_is_word_of) (defBody s_is_word_of) (defScope s_is_word_of) .none kV0 dc0 pm0 an0 cd0 ct0), sl0⟩) (c0 : PySem.W.codeIn K cd0 "is_word_of" = true) (k0 : PySem.W.keepIn K (.ref f0) = true)
    (a1 : PySem.W.nsIn K mainGlobals "is_numeral" = some (some (.ref f1))) (l1 : K.lookup f1 = some ⟨oc1, od1, .func (PySem.W.fnOf "is_numeral" "is_numeral" (defArgs s_is_numeral) (defBody s_is_numeral) (defScope s_is_numeral) .none kV1 dc1 pm1 an1 cd1 ct1), sl1⟩) (c1 : PySem.W.codeIn K cd1 "is_numeral" = true) (k1 : PySem.W.keepIn K (.ref f1) = true)
    (a2 : PySem.W.nsIn K mainGlobals "lot_of" = some (some (.ref f2))) (l2 : K.lookup f2 = some ⟨oc2, od2, .func (PySem.W.fnOf "lot_of" "lot_of" (defArgs s_lot_of) (defBody s_lot_of) (defScope s_lot_of) .none kV2 dc2 pm2 an2 cd2 ct2), sl2⟩) (c2 : PySem.W.codeIn K cd2 "lot_of" = true) (k2 : PySem.W.keepIn K (.ref f2) = true)
    (a3 : PySem.W.nsIn K mainGlobals "check_shard_name" = some (some (.ref f3))) (l3 : K.lookup f3 = some ⟨oc3, od3, .func (PySem.W.fnOf "check_shard_name" "check_shard_name" (defArgs s_check_shard_name) (defBody s_check_shard_name) (defScope s_check_shard_name) .none kV3 dc3 pm3 an3 cd3 ct3), sl3⟩) (c3 : PySem.W.codeIn K cd3 "check_shard_name" = true) (k3 : PySem.W.keepIn K (.ref f3) = true)
    (a4 : PySem.W.nsIn K mainGlobals "log_file" = some (some (.ref f4))) (l4 : K.lookup f4 = some ⟨oc4, od4, .func (PySem.W.fnOf "log_file" "log_file" (defArgs s_log_file) (defBody s_log_file) (defScope s_log_file) .none kV4 dc4 pm4 an4 cd4 ct4), sl4⟩) (c4 : PySem.W.codeIn K cd4 "log_file" = true) (k4 : PySem.W.keepIn K (.ref f4) = true)
    (a5 : PySem.W.nsIn K mainGlobals "snapshot_file" = some (some (.ref f5))) (l5 : K.lookup f5 = some ⟨oc5, od5, .func (PySem.W.fnOf "snapshot_file" "snapshot_file" (defArgs s_snapshot_file) (defBody s_snapshot_file) (defScope s_snapshot_file) .none kV5 dc5 pm5 an5 cd5 ct5), sl5⟩) (c5 : PySem.W.codeIn K cd5 "snapshot_file" = true) (k5 : PySem.W.keepIn K (.ref f5) = true)
    (a6 : PySem.W.nsIn K mainGlobals "number_behind" = some (some (.ref f6))) (l6 : K.lookup f6 = some ⟨oc6, od6, .func (PySem.W.fnOf "number_behind" "number_behind" (defArgs s_number_behind) (defBody s_number_behind) (defScope s_number_behind) .none kV6 dc6 pm6 an6 cd6 ct6), sl6⟩) (c6 : PySem.W.codeIn K cd6 "number_behind" = true) (k6 : PySem.W.keepIn K (.ref f6) = true)
    (a7 : PySem.W.nsIn K mainGlobals "numbers_behind" = some (some (.ref f7))) (l7 : K.lookup f7 = some ⟨oc7, od7, .func (PySem.W.fnOf "numbers_behind" "numbers_behind" (defArgs s_numbers_behind) (defBody s_numbers_behind) (defScope s_numbers_behind) .none kV7 dc7 pm7 an7 cd7 ct7), sl7⟩) (c7 : PySem.W.codeIn K cd7 "numbers_behind" = true) (k7 : PySem.W.keepIn K (.ref f7) = true)
    (a8 : PySem.W.nsIn K mainGlobals "shard_files" = some (some (.ref f8))) (l8 : K.lookup f8 = some ⟨oc8, od8, .func (PySem.W.fnOf "shard_files" "shard_files" (defArgs s_shard_files) (defBody s_shard_files) (defScope s_shard_files) .none kV8 dc8 pm8 an8 cd8 ct8), sl8⟩) (c8 : PySem.W.codeIn K cd8 "shard_files" = true) (k8 : PySem.W.keepIn K (.ref f8) = true)
    (a9 : PySem.W.nsIn K mainGlobals "_law_heap" = some (some (.ref f9))) (l9 : K.lookup f9 = some ⟨oc9, od9, .func (PySem.W.fnOf "_law_heap" "_law_heap" (defArgs s__law_heap) (defBody s__law_heap) (defScope s__law_heap) .none kV9 dc9 pm9 an9 cd9 ct9), sl9⟩) (c9 : PySem.W.codeIn K cd9 "_law_heap" = true) (k9 : PySem.W.keepIn K (.ref f9) = true)
    (a10 : PySem.W.nsIn K mainGlobals "_law_draw" = some (some (.ref f10))) (l10 : K.lookup f10 = some ⟨oc10, od10, .func (PySem.W.fnOf "_law_draw" "_law_draw" (defArgs s__law_draw) (defBody s__law_draw) (defScope s__law_draw) .none kV10 dc10 pm10 an10 cd10 ct10), sl10⟩) (c10 : PySem.W.codeIn K cd10 "_law_draw" = true) (k10 : PySem.W.keepIn K (.ref f10) = true)
    (a11 : PySem.W.nsIn K mainGlobals "_law_pick" = some (some (.ref f11))) (l11 : K.lookup f11 = some ⟨oc11, od11, .func (PySem.W.fnOf "_law_pick" "_law_pick" (defArgs s__law_pick) (defBody s__law_pick) (defScope s__law_pick) .none kV11 dc11 pm11 an11 cd11 ct11), sl11⟩) (c11 : PySem.W.codeIn K cd11 "_law_pick" = true) (k11 : PySem.W.keepIn K (.ref f11) = true)
    (a12 : PySem.W.nsIn K mainGlobals "_law_name" = some (some (.ref f12))) (l12 : K.lookup f12 = some ⟨oc12, od12, .func (PySem.W.fnOf "_law_name" "_law_name" (defArgs s__law_name) (defBody s__law_name) (defScope s__law_name) .none kV12 dc12 pm12 an12 cd12 ct12), sl12⟩) (c12 : PySem.W.codeIn K cd12 "_law_name" = true) (k12 : PySem.W.keepIn K (.ref f12) = true)
    (a13 : PySem.W.nsIn K mainGlobals "_law_number" = some (some (.ref f13))) (l13 : K.lookup f13 = some ⟨oc13, od13, .func (PySem.W.fnOf "_law_number" "_law_number" (defArgs s__law_number) (defBody s__law_number) (defScope s__law_number) .none kV13 dc13 pm13 an13 cd13 ct13), sl13⟩) (c13 : PySem.W.codeIn K cd13 "_law_number" = true) (k13 : PySem.W.keepIn K (.ref f13) = true)
    (a14 : PySem.W.nsIn K mainGlobals "_law_is_refused" = some (some (.ref f14))) (l14 : K.lookup f14 = some ⟨oc14, od14, .func (PySem.W.fnOf "_law_is_refused" "_law_is_refused" (defArgs s__law_is_refused) (defBody s__law_is_refused) (defScope s__law_is_refused) .none kV14 dc14 pm14 an14 cd14 ct14), sl14⟩) (c14 : PySem.W.codeIn K cd14 "_law_is_refused" = true) (k14 : PySem.W.keepIn K (.ref f14) = true)
    (a15 : PySem.W.nsIn K mainGlobals "_law_file" = some (some (.ref f15))) (l15 : K.lookup f15 = some ⟨oc15, od15, .func (PySem.W.fnOf "_law_file" "_law_file" (defArgs s__law_file) (defBody s__law_file) (defScope s__law_file) .none kV15 dc15 pm15 an15 cd15 ct15), sl15⟩) (c15 : PySem.W.codeIn K cd15 "_law_file" = true) (k15 : PySem.W.keepIn K (.ref f15) = true)
    (a16 : PySem.W.nsIn K mainGlobals "law" = some (some (.ref f16))) (l16 : K.lookup f16 = some ⟨oc16, od16, .func (PySem.W.fnOf "law" "law" (defArgs s_law) (defBody s_law) (defScope s_law) .none kV16 dc16 pm16 an16 cd16 ct16), sl16⟩) (c16 : PySem.W.codeIn K cd16 "law" = true) (k16 : PySem.W.keepIn K (.ref f16) = true)
    (n_StoreError : PySem.W.nsIn K mainGlobals "StoreError" = some (some (.ref c_StoreError)))
    (x_StoreError : K.lookup c_StoreError = some (excClassObj nm_StoreError q_StoreError c_StoreError N_StoreError bs_StoreError [.type "ValueError", .type "Exception", .type "BaseException", .type "object"] true sn_StoreError sub_StoreError ab_StoreError col_StoreError dd_StoreError m0_StoreError m1_StoreError m2_StoreError m3_StoreError m5_StoreError "ValueError.__new__"))
    (sa_StoreError : PySem.W.findIn K (.ref c_StoreError) "__setattr__" = some (some (.builtin "object.__setattr__")))
    (ga_StoreError : PySem.W.findIn K (.ref c_StoreError) "__getattribute__" = some (some (.builtin "BaseException.__getattribute__")))
    (gg_StoreError : PySem.W.findIn K (.ref c_StoreError) "__getattr__" = some none)
    (kc_StoreError : PySem.W.keepIn K (.ref c_StoreError) = true)
    (ec_StoreError : PySem.W.subIn K (.ref c_StoreError) (.type "BaseException") = some true)
    (tc_StoreError : PySem.W.typeIn K (.ref c_StoreError) = some (.type "type"))
    (hd_StoreError : PySem.W.hasDictIn K c_StoreError = true)
    (ic_StoreError : PySem.W.isClsIn K c_StoreError = true)
    (ha_StoreError : PySem.W.findIn K (.ref c_StoreError) "__class__" = some (some (.builtin "object.__class__")))
    (hm_StoreError : PySem.W.mroIn K c_StoreError (.type "object") = some true)
    (nf0_StoreError : PySem.W.findIn K (.ref c_StoreError) "word" = some none)
    (n_Refused : PySem.W.nsIn K mainGlobals "Refused" = some (some (.ref c_Refused)))
    (x_Refused : K.lookup c_Refused = some (excClassObj nm_Refused q_Refused c_Refused N_Refused bs_Refused [.ref c_StoreError, .type "ValueError", .type "Exception", .type "BaseException", .type "object"] true sn_Refused sub_Refused ab_Refused col_Refused dd_Refused m0_Refused m1_Refused m2_Refused m3_Refused m5_Refused "ValueError.__new__"))
    (sa_Refused : PySem.W.findIn K (.ref c_Refused) "__setattr__" = some (some (.builtin "object.__setattr__")))
    (ga_Refused : PySem.W.findIn K (.ref c_Refused) "__getattribute__" = some (some (.builtin "BaseException.__getattribute__")))
    (gg_Refused : PySem.W.findIn K (.ref c_Refused) "__getattr__" = some none)
    (kc_Refused : PySem.W.keepIn K (.ref c_Refused) = true)
    (ec_Refused : PySem.W.subIn K (.ref c_Refused) (.type "BaseException") = some true)
    (tc_Refused : PySem.W.typeIn K (.ref c_Refused) = some (.type "type"))
    (hd_Refused : PySem.W.hasDictIn K c_Refused = true)
    (ic_Refused : PySem.W.isClsIn K c_Refused = true)
    (ha_Refused : PySem.W.findIn K (.ref c_Refused) "__class__" = some (some (.builtin "object.__class__")))
    (hm_Refused : PySem.W.mroIn K c_Refused (.type "object") = some true)
    (nf0_Refused : PySem.W.findIn K (.ref c_Refused) "word" = some none)
    (gi_Refused : PySem.W.findIn K (.ref c_Refused) "__init__" = some (some (.ref f_Refused)))
    (ti_Refused : PySem.W.typeIn K (.ref f_Refused) = some (.type "function"))
    (li_Refused : K.lookup f_Refused = some ⟨o1_Refused, of_Refused, .func (PySem.W.fnOf "__init__" "Refused.__init__" (defArgs i_Refused) (defBody i_Refused) (defScope i_Refused) .none kf_Refused d1_Refused p1_Refused af_Refused cdf_Refused ct_Refused), sf_Refused⟩)
    (cc_Refused : PySem.W.codeIn K cdf_Refused "Refused.__init__" = true)
    (ki_Refused : PySem.W.keepIn K (.ref f_Refused) = true)
    (su_Refused_StoreError : PySem.W.subIn K (.ref c_StoreError) (.ref c_Refused) = some false)
    (su_Refused_Refused : PySem.W.subIn K (.ref c_Refused) (.ref c_Refused) = some true)
    (hnO : PySem.W.specialIn K (.builtin "object.__class__") "__get__" = some (some (.builtin "getset_descriptor.__get__"))) (htO : PySem.W.takesIn K (.builtin "object.__class__") = some true)
    (z_abs : PySem.W.nsIn K mainGlobals "abs" = some none)
    (z_all : PySem.W.nsIn K mainGlobals "all" = some none)
    (z_any : PySem.W.nsIn K mainGlobals "any" = some none)
    (z_int : PySem.W.nsIn K mainGlobals "int" = some none)
    (z_isinstance : PySem.W.nsIn K mainGlobals "isinstance" = some none)
    (z_len : PySem.W.nsIn K mainGlobals "len" = some none)
    (z_range : PySem.W.nsIn K mainGlobals "range" = some none)
    (z_repr : PySem.W.nsIn K mainGlobals "repr" = some none)
    (z_set : PySem.W.nsIn K mainGlobals "set" = some none)
    (z_sorted : PySem.W.nsIn K mainGlobals "sorted" = some none)
    (z_str : PySem.W.nsIn K mainGlobals "str" = some none)
    (z_tuple : PySem.W.nsIn K mainGlobals "tuple" = some none)
    (g_DIGITS : PySem.W.nsIn K mainGlobals "DIGITS" = some (some (.str "0123456789" tDIGITS)))
    (g_LETTERS : PySem.W.nsIn K mainGlobals "LETTERS" = some (some (.str "abcdefghijklmnopqrstuvwxyz" tLETTERS)))
    (g_LONGEST_SHARD_NAME : PySem.W.nsIn K mainGlobals "LONGEST_SHARD_NAME" = some (some (.int 8 tLONGEST_SHARD_NAME)))
    (g_MOST_DIGITS : PySem.W.nsIn K mainGlobals "MOST_DIGITS" = some (some (.int 6 tMOST_DIGITS)))
    (g_NEW : PySem.W.nsIn K mainGlobals "NEW" = some (some (.str ".new" tNEW)))
    :
    ∃ fd : FuncData, (∀ (s : Shared) (v : Value), BindsTo s fd ⟨[v], []⟩ [("script", v)]) ∧ ∀ base : Heap, K.In base → base.Ns mainGlobals mg → FnG l.prog w K mg base 6 fa fd ["script"] (lift K F_law) := by
  have e := hfa.symm.trans (PySem.W.mg_of X G a16)
  cases e
  have T_ef : ∀ y C, ClsAt K y C → y ∈ errNames → ErrF K C := cls_all fun x hx => by
      simp only [errNames, List.mem_cons, List.not_mem_nil, or_false] at hx
      rcases hx with rfl | rfl
      · exact ⟨c_StoreError, n_StoreError, ⟨ga_StoreError, gg_StoreError, ec_StoreError, hd_StoreError⟩, ic_StoreError, ha_StoreError, hnO, htO, hm_StoreError⟩
      · exact ⟨c_Refused, n_Refused, ⟨ga_Refused, gg_Refused, ec_Refused, hd_Refused⟩, ic_Refused, ha_Refused, hnO, htO, hm_Refused⟩
  have T_nf0 : ∀ y C, ClsAt K y C → y ∈ errNames → PySem.W.findIn K (.ref C) "word" = some none := cls_all fun x hx => by
      simp only [errNames, List.mem_cons, List.not_mem_nil, or_false] at hx
      rcases hx with rfl | rfl
      · exact ⟨c_StoreError, n_StoreError, nf0_StoreError⟩
      · exact ⟨c_Refused, n_Refused, nf0_Refused⟩
  have T_hit_Refused : ∃ c : Addr, mg "Refused" = some (.ref c) ∧ Hits K (.ref c) tab_Refused := ⟨c_Refused, PySem.W.mg_of X G n_Refused, hits_of (L := L_Refused) fun p hx => by
      simp only [L_Refused, List.mem_cons, List.not_mem_nil, or_false] at hx
      rcases hx with rfl | rfl
      · exact ⟨c_StoreError, n_StoreError, PySem.W.exm_ref ec_Refused hd_Refused tc_Refused su_Refused_StoreError⟩
      · exact ⟨c_Refused, n_Refused, PySem.W.exm_ref ec_Refused hd_Refused tc_Refused su_Refused_Refused⟩⟩
  have T : Txt K mg (0 : Addr) := ⟨PySem.W.mg_none_of X G z_abs, PySem.W.mg_none_of X G z_all, PySem.W.mg_none_of X G z_any, PySem.W.mg_none_of X G z_int, PySem.W.mg_none_of X G z_isinstance, PySem.W.mg_none_of X G z_len, PySem.W.mg_none_of X G z_range, PySem.W.mg_none_of X G z_repr, PySem.W.mg_none_of X G z_set, PySem.W.mg_none_of X G z_sorted, PySem.W.mg_none_of X G z_str, PySem.W.mg_none_of X G z_tuple, T_ef, T_nf0, T_hit_Refused, ⟨_, PySem.W.mg_of X G g_DIGITS, ⟨_, rfl⟩⟩, ⟨_, PySem.W.mg_of X G g_LETTERS, ⟨_, rfl⟩⟩, ⟨_, PySem.W.mg_of X G g_LONGEST_SHARD_NAME, ⟨_, rfl⟩⟩, ⟨_, PySem.W.mg_of X G g_MOST_DIGITS, ⟨_, rfl⟩⟩, ⟨_, PySem.W.mg_of X G g_NEW, ⟨_, rfl⟩⟩⟩
  have F_Refused := fun_mk (st := i_Refused) li_Refused cc_Refused ki_Refused
  refine ⟨PySem.W.fnOf "law" "law" (defArgs s_law) (defBody s_law) (defScope s_law) .none kV16 dc16 pm16 an16 cd16 ct16, fun s v => .of_eq rfl, fun base KB NB => ?_⟩
  have h_Refused : Err l.prog w K mg base 1 "Refused" ["self", "word"] ["word"] := ⟨c_Refused, f_Refused, _, n_Refused, PySem.W.mg_of X G n_Refused, ⟨⟨nm_Refused, q_Refused, N_Refused, bs_Refused, _, sn_Refused, sub_Refused, ab_Refused, col_Refused, dd_Refused, m0_Refused, m1_Refused, m2_Refused, m3_Refused, m5_Refused, x_Refused, by rfl⟩, sa_Refused, ec_Refused, tc_Refused, kc_Refused⟩, ⟨ga_Refused, gg_Refused, ec_Refused, hd_Refused⟩, gi_Refused, ti_Refused, (fun f hf => by
      simp only [List.mem_cons, List.not_mem_nil, or_false] at hf
      rcases hf with rfl
      · exact nf0_Refused), ini_Refused F_Refused, F_Refused.binds fun _ _ _ _ _ _ us hl => match us, hl with | [_, _], _ => rfl⟩
  have h_is_word_of : Has l.prog w K mg base 1 "is_word_of" s_is_word_of ["value", "signs", "most"] F_is_word_of := Has.mk' (fun_mk (st := s_is_word_of) l0 c0 k0) (PySem.W.mg_of X G a0) (ok_is_word_of (P := l.prog) (w := w) (base := base) (fun_mk (st := s_is_word_of) l0 c0 k0) T len_is_word_of wp_is_word_of) fun _ _ _ _ _ _ us hl => match us, hl with | [_, _, _], _ => rfl
  have h_lot_of : Has l.prog w K mg base 1 "lot_of" s_lot_of ["things"] F_lot_of := Has.mk' (fun_mk (st := s_lot_of) l2 c2 k2) (PySem.W.mg_of X G a2) (ok_lot_of (P := l.prog) (w := w) (base := base) (fun_mk (st := s_lot_of) l2 c2 k2) T len_lot_of wp_lot_of) fun _ _ _ _ _ _ us hl => match us, hl with | [_], _ => rfl
  have h_log_file : Has l.prog w K mg base 1 "log_file" s_log_file ["name", "number"] F_log_file := Has.mk' (fun_mk (st := s_log_file) l4 c4 k4) (PySem.W.mg_of X G a4) (ok_log_file (P := l.prog) (w := w) (base := base) (fun_mk (st := s_log_file) l4 c4 k4) T len_log_file wp_log_file) fun _ _ _ _ _ _ us hl => match us, hl with | [_, _], _ => rfl
  have h_snapshot_file : Has l.prog w K mg base 1 "snapshot_file" s_snapshot_file ["name", "number"] F_snapshot_file := Has.mk' (fun_mk (st := s_snapshot_file) l5 c5 k5) (PySem.W.mg_of X G a5) (ok_snapshot_file (P := l.prog) (w := w) (base := base) (fun_mk (st := s_snapshot_file) l5 c5 k5) T len_snapshot_file wp_snapshot_file) fun _ _ _ _ _ _ us hl => match us, hl with | [_, _], _ => rfl
  have h__law_heap : Has l.prog w K mg base 1 "_law_heap" s__law_heap ["script"] F__law_heap := Has.mk' (fun_mk (st := s__law_heap) l9 c9 k9) (PySem.W.mg_of X G a9) (ok__law_heap (P := l.prog) (w := w) (base := base) (fun_mk (st := s__law_heap) l9 c9 k9) T len__law_heap wp__law_heap) fun _ _ _ _ _ _ us hl => match us, hl with | [_], _ => rfl
  have h__law_draw : Has l.prog w K mg base 1 "_law_draw" s__law_draw ["heap", "many"] F__law_draw := Has.mk' (fun_mk (st := s__law_draw) l10 c10 k10) (PySem.W.mg_of X G a10) (ok__law_draw (P := l.prog) (w := w) (base := base) (fun_mk (st := s__law_draw) l10 c10 k10) T) fun _ _ _ _ _ _ us hl => match us, hl with | [_, _], _ => rfl
  have h_is_numeral : Has l.prog w K mg base 2 "is_numeral" s_is_numeral ["value", "most"] F_is_numeral := Has.mk' (fun_mk (st := s_is_numeral) l1 c1 k1) (PySem.W.mg_of X G a1) (ok_is_numeral (P := l.prog) (w := w) (base := base) (fun_mk (st := s_is_numeral) l1 c1 k1) T h_is_word_of len_is_numeral wp_is_numeral) fun _ _ _ _ _ _ us hl => match us, hl with | [_, _], _ => rfl
  have h__law_pick : Has l.prog w K mg base 2 "_law_pick" s__law_pick ["heap", "some"] F__law_pick := Has.mk' (fun_mk (st := s__law_pick) l11 c11 k11) (PySem.W.mg_of X G a11) (ok__law_pick (P := l.prog) (w := w) (base := base) (fun_mk (st := s__law_pick) l11 c11 k11) T h__law_draw len__law_pick wp__law_pick) fun _ _ _ _ _ _ us hl => match us, hl with | [_, _], _ => rfl
  have h_check_shard_name : Has l.prog w K mg base 3 "check_shard_name" s_check_shard_name ["value"] F_check_shard_name := Has.mk' (fun_mk (st := s_check_shard_name) l3 c3 k3) (PySem.W.mg_of X G a3) (ok_check_shard_name (P := l.prog) (w := w) (base := base) (fun_mk (st := s_check_shard_name) l3 c3 k3) T h_is_word_of h_Refused len_check_shard_name wp_check_shard_name) fun _ _ _ _ _ _ us hl => match us, hl with | [_], _ => rfl
  have h_number_behind : Has l.prog w K mg base 3 "number_behind" s_number_behind ["text", "start"] F_number_behind := Has.mk' (fun_mk (st := s_number_behind) l6 c6 k6) (PySem.W.mg_of X G a6) (ok_number_behind (P := l.prog) (w := w) (base := base) (fun_mk (st := s_number_behind) l6 c6 k6) T h_is_numeral len_number_behind wp_number_behind) fun _ _ _ _ _ _ us hl => match us, hl with | [_, _], _ => rfl
  have h__law_name : Has l.prog w K mg base 3 "_law_name" s__law_name ["heap"] F__law_name := Has.mk' (fun_mk (st := s__law_name) l12 c12 k12) (PySem.W.mg_of X G a12) (ok__law_name (P := l.prog) (w := w) (base := base) (fun_mk (st := s__law_name) l12 c12 k12) T h__law_draw h__law_pick len__law_name wp__law_name) fun _ _ _ _ _ _ us hl => match us, hl with | [_], _ => rfl
  have h__law_number : Has l.prog w K mg base 3 "_law_number" s__law_number ["heap"] F__law_number := Has.mk' (fun_mk (st := s__law_number) l13 c13 k13) (PySem.W.mg_of X G a13) (ok__law_number (P := l.prog) (w := w) (base := base) (fun_mk (st := s__law_number) l13 c13 k13) T h__law_draw h__law_pick len__law_number wp__law_number) fun _ _ _ _ _ _ us hl => match us, hl with | [_], _ => rfl
  have h_numbers_behind : Has l.prog w K mg base 4 "numbers_behind" s_numbers_behind ["texts", "start"] F_numbers_behind := Has.mk' (fun_mk (st := s_numbers_behind) l7 c7 k7) (PySem.W.mg_of X G a7) (ok_numbers_behind (P := l.prog) (w := w) (base := base) (fun_mk (st := s_numbers_behind) l7 c7 k7) T h_lot_of h_number_behind len_numbers_behind wp_numbers_behind) fun _ _ _ _ _ _ us hl => match us, hl with | [_, _], _ => rfl
  have h__law_is_refused : Has l.prog w K mg base 4 "_law_is_refused" s__law_is_refused ["value"] F__law_is_refused := Has.mk' (fun_mk (st := s__law_is_refused) l14 c14 k14) (PySem.W.mg_of X G a14) (ok__law_is_refused (P := l.prog) (w := w) (base := base) (fun_mk (st := s__law_is_refused) l14 c14 k14) T h_check_shard_name len__law_is_refused wp__law_is_refused) fun _ _ _ _ _ _ us hl => match us, hl with | [_], _ => rfl
  have h__law_file : Has l.prog w K mg base 4 "_law_file" s__law_file ["heap", "name", "other"] F__law_file := Has.mk' (fun_mk (st := s__law_file) l15 c15 k15) (PySem.W.mg_of X G a15) (ok__law_file (P := l.prog) (w := w) (base := base) (fun_mk (st := s__law_file) l15 c15 k15) T h_log_file h_snapshot_file h__law_draw h__law_pick h__law_number len__law_file wp__law_file) fun _ _ _ _ _ _ us hl => match us, hl with | [_, _, _], _ => rfl
  have h_shard_files : Has l.prog w K mg base 5 "shard_files" s_shard_files ["names", "name"] F_shard_files := Has.mk' (fun_mk (st := s_shard_files) l8 c8 k8) (PySem.W.mg_of X G a8) (ok_shard_files (P := l.prog) (w := w) (base := base) (fun_mk (st := s_shard_files) l8 c8 k8) T h_lot_of h_number_behind h_numbers_behind len_shard_files wp_shard_files) fun _ _ _ _ _ _ us hl => match us, hl with | [_, _], _ => rfl
  exact ok_law (P := l.prog) (w := w) (base := base) (fun_mk (st := s_law) l16 c16 k16) T h_check_shard_name h_log_file h_snapshot_file h_shard_files h__law_heap h__law_draw h__law_pick h__law_name h__law_number h__law_is_refused h__law_file len_law wp_law
theorem at_end {K : PySem.W.Frag} {H : Hp} {a : Addr} {ns : List Int} (hl : ns.length ≤ 63) (hS : SqL K H a (ns.map V.int)) : lift K F_law [.ref a] H (fun v _ => v = .bl true) fun _ _ _ => False := by
  have fe : fz (fun _ => none) H (fun _ => none) = H := by
    funext b
    exact fz_none rfl rfl
  refine ⟨fun _ => none, [.lst (ns.map .int)], fun _ => none, fun d _ => d = .bl true, fun _ _ _ => False, ⟨(fun _ _ e => nomatch e), (fun _ _ e => nomatch e)⟩, ?_, ⟨ns, rfl, hl, fun _ => rfl⟩, fun v d H' M' _ r e => ?_, fun _ _ _ _ _ _ _ _ _ _ _ _ z => z⟩
  · rw [fe]
    exact .cons (.lst hS (.ofInts ns)) .nil
  · subst e
    cases r
    rfl
end K58
open PySem PySem.W PyProof.Rows in
set_option maxRecDepth 100000 in
set_option maxHeartbeats 0 in
theorem PySem.Challenge.cw_nonearer_k58_files_of_a_shard_holds : PySem.Challenge.rw_nonearer_k58_files_of_a_shard.Holds := by
  w_on; o_law; k_head; (case hw => w_witness2)
  k_fill
  refine L3.walk_g (l := PySem.Challenge.rw_nonearer_k58_files_of_a_shard) (n := 63) (k := 6) (x := "script") (sp := fun w => L3.lift _ K58.F_law) rfl (by decide) rfl ⟨rfl, by decide, by decide⟩ (fun w h Y => PySem.W.kIn_of Y) ?F (fun w H a ns hl hS => K58.at_end hl hS)
  case F =>
    intro w mg fa h KX G hmg
    refine' K58.all_mk rfl KX G hmg ?a0 ?l0 ?c0 ?k0 ?a1 ?l1 ?c1 ?k1 ?a2 ?l2 ?c2 ?k2 ?a3 ?l3 ?c3 ?k3 ?a4 ?l4 ?c4 ?k4 ?a5 ?l5 ?c5 ?k5 ?a6 ?l6 ?c6 ?k6 ?a7 ?l7 ?c7 ?k7 ?a8 ?l8 ?c8 ?k8 ?a9 ?l9 ?c9 ?k9 ?a10 ?l10 ?c10 ?k10 ?a11 ?l11 ?c11 ?k11 ?a12 ?l12 ?c12 ?k12 ?a13 ?l13 ?c13 ?k13 ?a14 ?l14 ?c14 ?k14 ?a15 ?l15 ?c15 ?k15 ?a16 ?l16 ?c16 ?k16 ?n_StoreError ?x_StoreError ?sa_StoreError ?ga_StoreError ?gg_StoreError ?kc_StoreError ?ec_StoreError ?tc_StoreError ?hd_StoreError ?ic_StoreError ?ha_StoreError ?hm_StoreError ?nf0_StoreError ?n_Refused ?x_Refused ?sa_Refused ?ga_Refused ?gg_Refused ?kc_Refused ?ec_Refused ?tc_Refused ?hd_Refused ?ic_Refused ?ha_Refused ?hm_Refused ?nf0_Refused ?gi_Refused ?ti_Refused ?li_Refused ?cc_Refused ?ki_Refused ?su_Refused_StoreError ?su_Refused_Refused ?hnO ?htO ?z_abs ?z_all ?z_any ?z_int ?z_isinstance ?z_len ?z_range ?z_repr ?z_set ?z_sorted ?z_str ?z_tuple ?g_DIGITS ?g_LETTERS ?g_LONGEST_SHARD_NAME ?g_MOST_DIGITS ?g_NEW
    (case a0 => k_is)
    (case l0 => k_is)
    (case c0 => k_is)
    (case k0 => k_is)
    (case a1 => k_is)
    (case l1 => k_is)
    (case c1 => k_is)
    (case k1 => k_is)
    (case a2 => k_is)
    (case l2 => k_is)
    (case c2 => k_is)
    (case k2 => k_is)
    (case a3 => k_is)
    (case l3 => k_is)
    (case c3 => k_is)
    (case k3 => k_is)
    (case a4 => k_is)
    (case l4 => k_is)
    (case c4 => k_is)
    (case k4 => k_is)
    (case a5 => k_is)
    (case l5 => k_is)
    (case c5 => k_is)
    (case k5 => k_is)
    (case a6 => k_is)
    (case l6 => k_is)
    (case c6 => k_is)
    (case k6 => k_is)
    (case a7 => k_is)
    (case l7 => k_is)
    (case c7 => k_is)
    (case k7 => k_is)
    (case a8 => k_is)
    (case l8 => k_is)
    (case c8 => k_is)
    (case k8 => k_is)
    (case a9 => k_is)
    (case l9 => k_is)
    (case c9 => k_is)
    (case k9 => k_is)
    (case a10 => k_is)
    (case l10 => k_is)
    (case c10 => k_is)
    (case k10 => k_is)
    (case a11 => k_is)
    (case l11 => k_is)
    (case c11 => k_is)
    (case k11 => k_is)
    (case a12 => k_is)
    (case l12 => k_is)
    (case c12 => k_is)
    (case k12 => k_is)
    (case a13 => k_is)
    (case l13 => k_is)
    (case c13 => k_is)
    (case k13 => k_is)
    (case a14 => k_is)
    (case l14 => k_is)
    (case c14 => k_is)
    (case k14 => k_is)
    (case a15 => k_is)
    (case l15 => k_is)
    (case c15 => k_is)
    (case k15 => k_is)
    (case a16 => k_is)
    (case l16 => k_is)
    (case c16 => k_is)
    (case k16 => k_is)
    (case n_StoreError => k_is)
    (case x_StoreError => k_is)
    (case sa_StoreError => k_is)
    (case ga_StoreError => k_is)
    (case gg_StoreError => k_is)
    (case kc_StoreError => k_is)
    (case ec_StoreError => k_is)
    (case tc_StoreError => k_is)
    (case hd_StoreError => k_is)
    (case ic_StoreError => k_is)
    (case ha_StoreError => k_is)
    (case hm_StoreError => k_is)
    (case nf0_StoreError => k_is)
    (case n_Refused => k_is)
    (case x_Refused => k_is)
    (case sa_Refused => k_is)
    (case ga_Refused => k_is)
    (case gg_Refused => k_is)
    (case kc_Refused => k_is)
    (case ec_Refused => k_is)
    (case tc_Refused => k_is)
    (case hd_Refused => k_is)
    (case ic_Refused => k_is)
    (case ha_Refused => k_is)
    (case hm_Refused => k_is)
    (case nf0_Refused => k_is)
    (case gi_Refused => k_is)
    (case ti_Refused => k_is)
    (case li_Refused => k_is)
    (case cc_Refused => k_is)
    (case ki_Refused => k_is)
    (case su_Refused_StoreError => k_is)
    (case su_Refused_Refused => k_is)
    (case hnO => k_is)
    (case htO => k_is)
    (case z_abs => k_is)
    (case z_all => k_is)
    (case z_any => k_is)
    (case z_int => k_is)
    (case z_isinstance => k_is)
    (case z_len => k_is)
    (case z_range => k_is)
    (case z_repr => k_is)
    (case z_set => k_is)
    (case z_sorted => k_is)
    (case z_str => k_is)
    (case z_tuple => k_is)
    (case g_DIGITS => k_is)
    (case g_LETTERS => k_is)
    (case g_LONGEST_SHARD_NAME => k_is)
    (case g_MOST_DIGITS => k_is)
    (case g_NEW => k_is)
#print axioms PySem.Challenge.cw_nonearer_k58_files_of_a_shard_holds
